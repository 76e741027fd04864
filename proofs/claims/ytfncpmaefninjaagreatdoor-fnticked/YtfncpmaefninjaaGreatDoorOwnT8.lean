/- What the proof leans on, part 8. -/
import Derived.Test.YtfncpmaefninjaaGreatDoorOwnT3
import Derived.Test.YtfncpmaefninjaaGreatDoorOwnT4
set_option linter.all false
set_option maxRecDepth 100000
set_option maxHeartbeats 8000000
open Go.Proofs.Tryz
open Go renaming World->w_,Value->v_,Calls->k_,Addr->d_,TypeId->T_
open Go.Ending renaming returned->r_
open Go.IntKind renaming i64->j_
open Go.Obj renaming cells->c_
open Go.RowKit renaming Below->B_,Hid->bE
open Go.Value renaming int->i_,slice->s_,bool->b_,string->t_,agg->a_
open Option renaming some->o_,none->n_
open Go.Proofs.Tryz renaming prog->J3

open Go.RowKit
namespace Go.Proofs.YtfncpmaefninjaaGreatDoor
section
def anx (n lo hi:Int): ∃ b,bE (∀ w,k_ J3 27 #[i_ j_ n,i_ j_ lo,i_ j_ hi] w fun e w'=>e=r_ (b_ b)/\w'=w)/\bE (cv n lo hi=b):=⟨_,dx n lo hi,rfl⟩
def bv (p:af):Bool:=aw (fun x:bD=>x.id) gw 0 p.aj && aw (fun x:aB=>x.id) ey 0 p.L9 && aw (fun x:az=>x.id) cU 0 p.ag && aw (fun x:au=>x.id) (fun x=>ct x.toci) 0 p.ae && aw (fun x:aM=>x.id) (fun x=>dj x.todS) 0 p.ai && decide (p.aj.length<=5) && decide (p.L9.length<=5) && decide (p.ag.length<=5) && decide (p.ae.length<=5) && decide (p.ai.length<=5)
def gQ {p:af} (h:aw (fun x:bD=>x.id) gw 0 p.aj=false):bv p=false:=by simp [bv,h]
def nk {p:af} (h:aw (fun x:aB=>x.id) ey 0 p.L9=false):bv p=false:=by simp [bv,h]
def fJ {p:af} (h:aw (fun x:az=>x.id) cU 0 p.ag=false):bv p=false:=by simp [bv,h]
def fv {p:af} (h:aw (fun x:au=>x.id) (fun x=>ct x.toci) 0 p.ae=false):bv p=false:=by simp [bv,h]
def eg {p:af} (h:aw (fun x:aM=>x.id) (fun x=>dj x.todS) 0 p.ai=false):bv p=false:=by simp [bv,h]
def wP {p:af} (h:decide ((p.aj.length:Int)<=5)=false):bv p=false:=by
 have h1:decide (p.aj.length<=5)=false:=decide_eq_false Zc0;simp [bv,h1]
def wS {p:af} (h:decide ((p.L9.length:Int)<=5)=false):bv p=false:=by
 have h1:decide (p.L9.length<=5)=false:=decide_eq_false Zc0;simp [bv,h1]
def wL {p:af} (h:decide ((p.ag.length:Int)<=5)=false):bv p=false:=by
 have h1:decide (p.ag.length<=5)=false:=decide_eq_false Zc0;simp [bv,h1]
def wJ {p:af} (h:decide ((p.ae.length:Int)<=5)=false):bv p=false:=by
 have h1:decide (p.ae.length<=5)=false:=decide_eq_false Zc0;simp [bv,h1]
def wv {p:af} (h:decide ((p.ai.length:Int)<=5)=false):bv p=false:=by
 have h1:decide (p.ai.length<=5)=false:=decide_eq_false Zc0;simp [bv,h1]
def yC {p:af} (t0:aw (fun x:bD=>x.id) gw 0 p.aj=true) (t1:aw (fun x:aB=>x.id) ey 0 p.L9=true) (t2:aw (fun x:az=>x.id) cU 0 p.ag=true) (t3:aw (fun x:au=>x.id) (fun x=>ct x.toci) 0 p.ae=true) (t4:aw (fun x:aM=>x.id) (fun x=>dj x.todS) 0 p.ai=true) (d0:decide ((p.aj.length:Int)<=5)=true) (d1:decide ((p.L9.length:Int)<=5)=true) (d2:decide ((p.ag.length:Int)<=5)=true) (d3:decide ((p.ae.length:Int)<=5)=true) (d4:decide ((p.ai.length:Int)<=5)=true):bv p=true:=by
 have e0:decide (p.aj.length<=5)=true:=decide_eq_true (by have:=of_decide_eq_true d0; omega);have e1:decide (p.L9.length<=5)=true:=decide_eq_true (by have:=of_decide_eq_true d1; omega);have e2:decide (p.ag.length<=5)=true:=decide_eq_true (by have:=of_decide_eq_true d2; omega);have e3:decide (p.ae.length<=5)=true:=decide_eq_true (by have:=of_decide_eq_true d3; omega);have e4:decide (p.ai.length<=5)=true:=decide_eq_true (by have:=of_decide_eq_true d4; omega);simp only [bv,t0,t1,t2,t3,t4,e0,e1,e2,e3,e4,Bool.and_self]
def rm {s:ByteArray} {b:Bool} (h:bw s=b) (hs:s.size<=1048576) (w:w_):k_ J3 82 #[t_ s] w fun e w'=>e=r_ (b_ b)/\w'=w:=by
 refine (jC s w hs).mono ?_;rintro e w' ⟨rfl,rfl⟩;exact ⟨al h,rfl⟩
def iz {W:w_} {o:Obj} {a:Option d_} {l:List ByteArray} {cap:Nat} {Me:Int} {b:Bool} (h:dJ l Me=b) (hf:fT W a l) (n:Nat):
  k_ J3 83 #[s_ a l.length cap,i_ j_ Me] ((W.alloc o).drewN n) fun e w'=>e=r_ (b_ b)/\w'=(W.alloc o).drewN n:=by
 refine (Aj a l cap Me ((W.alloc o).drewN n) hf.len hf.short ?_).mono ?_
 .exact hf.row.below (bd ((Kp _ W).alloc (Ki _) o) n)
 .rintro e w' ⟨rfl,rfl⟩
  exact ⟨al h,rfl⟩
def lx {α:Type} {num:α->Int} {l:List α} :bW num 0 (l.take 0)=0:=by simp [bW]
structure af.Fit (p:af):Prop where
 short:p.dX
 ag: ∀ b∈p.ag,b.text.size<=1048576
 ae: ∀ b∈p.ae,b.Ma.length<=1048576/\ ∀ s∈b.Ma,s.size<=1048576
 ai: ∀ b∈p.ai,b.Ma.length<=1048576/\ ∀ s∈b.Ma,s.size<=1048576
def anW {s:ByteArray} (hs:s.size<=1048576): ∃ b,bE (∀ w,k_ J3 82 #[t_ s] w fun e w'=>e=r_ (b_ b)/\w'=w)/\bE (bw s=b):=⟨_,rm rfl hs,rfl⟩
def anI {W:w_} {a:Option d_} {l:List ByteArray} (cap:Nat) (Me:Int) (hf:fT W a l): ∃ b,bE (∀ o n,k_ J3 83 #[s_ a l.length cap,i_ j_ Me] ((W.alloc o).drewN n) fun e w'=>e=r_ (b_ b)/\w'=(W.alloc o).drewN n)/\bE (dJ l Me=b):=⟨_,fun _ n=>iz rfl hf n,rfl⟩
def alB {α:Type} {num:α->Int} {ok:α->Bool} {l:List α} {k k1:Nat} {x:α} {b c K:Bool} (e:k1=k+1) (hA:aw num ok 0 (l.take k)=true) (hx:l[k]? =o_ x) (hin:cv (num x) 1 1000=b) (hc:b=true->decide (bW num 0 (l.take k) < num x)=c) (hok:ok x=K):
  bE (((b && (c && K))=true->aw num ok 0 (l.take k1)=true)/\((b && (c && K))=false->aw num ok 0 l=false)):=by
 subst e hok;constructor
 .intro h
  simp only [J7] at h;obtain ⟨rfl,rfl,h3⟩:=h;exact ed hA hx hin (of_decide_eq_true (hc rfl)) h3
 .intro h
  refine bS hx fun hh=> ?_
  rw [hin] at hh;rw [hh.1,hh.2.2,<- hc hh.1,decide_eq_true hh.2.1] at h;cases h
def ch2 (a b:Bool):a=false\/(a=true/\b=false)\/(a=true/\b=true):=by cases a <;> cases b <;> simp
def zI (p:af) (w:w_) (hf:p.Fit) (h:af.At w p):
  k_ J3 41 #[a_ p.cells] w fun e w'=>e=r_ (b_ (bv p))/\B_ w.heap.size w w':=by
 have HB:bE (av (w.alloc (c_ p.cells 31)) w.heap.size p/\af.At (w.alloc (c_ p.cells 31)) p/\B_ w.heap.size w (w.alloc (c_ p.cells 31))):=⟨Kj _ _,h.below ((Kp _ _).alloc (Ki _) _),(Kp _ _).alloc (Ki _) _⟩
 have fl:bE p.Fit:=hf;clear h hf;unfold af.cells at *
 go_enter func41,ntmps41
 go_wp2_with fail;generalize w.alloc (c_ p.row 31)=W at *
 go_loopw [3] (fun i wr=> ∃ k:Nat,k<=p.aj.length/\i=i_ j_ k/\bE (aw (fun x:bD=>x.id) gw 0 (p.aj.take k)=true/\B_ W.heap.size W wr)) (fun i _=>p.aj.length - (intOf i).toNat)
 case atStart=>exact ⟨0,Ky _,rfl,⟨rfl,Kp _ _⟩⟩
 case round=>
  obtain ⟨k,hk,rfl,HA⟩:=hrel;have hsz:w.heap.size < wr.heap.size:=Kn (J2.1 HB.I.1).1 HA.I.2.size;have cy:bE (av wr w.heap.size p/\af.At wr p/\B_ w.heap.size w wr):=⟨HB.I.1.below HA.I.2,HB.I.2.1.below HA.I.2,HB.I.2.2.trans (HA.I.2.mono HB.I.2.2.size)⟩
  obtain ⟨m0,m1,m2,m3,m4,m5,m6,m7⟩:=cy.I.1.cells;have hll:=fl.I.short.aj;by_cases hlt:k < p.aj.length
  .as_aux_lemma=>
    have i0:(0:Int)<=(k:Int):=zo
    have i1:(k:Int) < (p.aj.length:Int):=zo
    obtain ⟨x,hx⟩: ∃ x,p.aj[k]? =o_ x:=⟨_,Kz hlt⟩
    have hmem:=KA hx;obtain ⟨gs,ha,hat⟩:=lQ cy.I.2.1.2.1 hx;have hgs:gs < wr.heap.size:=Le hat.1;have HP:bE (∀ y,p.aj[k - 1]? =o_ y->wr.cell? ⟨gs,(k - 1) * 3,n_⟩=o_ (i_ j_ y.id)):=fun y hy=>by
     obtain ⟨g2,ha2,g8⟩:=lQ cy.I.2.1.2.1 hy;exact Zby
    obtain ⟨c0,c1,c2⟩:=hat;rw [ha] at m3;obtain ⟨b,kI,lN⟩:=anx x.id 1 1000;obtain ⟨b5,lE,H5⟩:=anx x.max 1 1000;obtain ⟨b6,HC6,H6⟩:=anx x.n 0 x.max;obtain ⟨k1,hk1⟩: ∃ k1,bE (k1=k+1):=⟨_,rfl⟩
    have HV:=fun c hc=>alB (c:=c) (K:=(b5 && b6)) hk1.I HA.I.1 hx lN.I hc (by simp [gw,H5.I,H6.I])
    have HX:=aA HV;clear hx ha hmem HB HV;by_cases hk0:k=0
    .have dk:decide (0 < k)=false:=decide_eq_false zo
     have HV:=HX.I true (fun e=>decide_eq_true ZcU);clear hk0 HX;rcases ch2 b b5 with rfl | ⟨rfl,rfl⟩ | ⟨rfl,rfl⟩
     rotate_left 2;cases b6
     all_goals
      go_wp2_with fail
      go_quiet ((first
       | (go_at_call_of 27 (x.id); exact L1 (kI.I _))
       | (go_at_call_of 27 (x.n); exact L1 (HC6.I _))
       | (go_at_call_of 27 (x.max); exact L1 (lE.I _))))
      go_wp2
      first
       | (go_ret; exact ⟨al (gQ (HV.I.2 rfl)).symm,bd (cy.I.2.2.alloc cy.I.2.2.size _) _⟩)
       | (go_roundw; (case rel=>exact ⟨k1,by rw [hk1.I]; omega,by rw [hk1.I]; go_num,⟨HV.I.1 rfl,bd (HA.I.2.alloc HA.I.2.size _) _⟩⟩); (case measure=>simp [intOf]; omega))
    obtain ⟨j,rfl⟩: ∃ j,k=j+1:=⟨k - 1,zo⟩
    obtain ⟨y,hy⟩: ∃ y,p.aj[j]? =o_ y:=⟨_,Kz zo⟩
    have cp:wr.cell? ⟨gs,j * 3,n_⟩=o_ (i_ j_ y.id):=HP.I y hy;have j0:(0:Int)<=(j:Int):=zo
    have j1:(j:Int) < (p.aj.length:Int):=zo
    have wk:IntKind.i64.wrap (j:Int)=(j:Int):=by rw [K8]; omega
    obtain ⟨c,hc⟩: ∃ c,c=decide (y.id < x.id):=⟨_,rfl⟩
    have HV:=HX.I c (fun _=>by rw [hc]; show decide (_ < x.id)=_; rw [eG hy 0]);have dp:decide (x.id<=y.id)= !c:=by rw [hc,<- decide_not]; exact decide_eq_decide.2 zo
    clear hy hk0 HX hc;cases c
    all_goals
     try simp only [Bool.not_false,Bool.not_true] at dp
     rcases ch2 b b5 with rfl | ⟨rfl,rfl⟩ | ⟨rfl,rfl⟩
     rotate_left 2;cases b6
     all_goals
      go_wp2_with fail
      go_quiet ((first
       | (go_at_call_of 27 (x.id); exact L1 (kI.I _))
       | (go_at_call_of 27 (x.n); exact L1 (HC6.I _))
       | (go_at_call_of 27 (x.max); exact L1 (lE.I _))))
      go_wp2
      first
       | (go_ret; exact ⟨al (gQ (HV.I.2 rfl)).symm,bd (cy.I.2.2.alloc cy.I.2.2.size _) _⟩)
       | (go_roundw; (case rel=>exact ⟨k1,by rw [hk1.I]; omega,by rw [hk1.I]; go_num,⟨HV.I.1 rfl,bd (HA.I.2.alloc HA.I.2.size _) _⟩⟩); (case measure=>simp [intOf]; omega))
  .have i1: ¬ (k:Int) < (p.aj.length:Int):=zo
   have Hz:bE (aw (fun x:bD=>x.id) gw 0 p.aj=true):=by have:=HA.I.1; rwa [KF zo] at this
   clear HA HB hlt hk hsz hll;go_wp2_with fail;clear i1 m0 m1 m2 m3 m4 m5 m6 m7
   rename w_=>W0
   have HB:bE (av W0 w.heap.size p/\af.At W0 p/\B_ w.heap.size w W0):=cy.I;clear cy
   go_loopw [5] (fun i wr=> ∃ k:Nat,k<=p.L9.length/\i=i_ j_ k/\bE (aw (fun x:aB=>x.id) ey 0 (p.L9.take k)=true/\B_ W0.heap.size W0 wr)) (fun i _=>p.L9.length - (intOf i).toNat)
   case atStart=>exact ⟨0,Ky _,rfl,⟨rfl,Kp _ _⟩⟩
   case round=>
    obtain ⟨k,hk,rfl,HA⟩:=hrel;have hsz:w.heap.size < wr.heap.size:=Kn (J2.1 HB.I.1).1 HA.I.2.size;have cy:bE (av wr w.heap.size p/\af.At wr p/\B_ w.heap.size w wr):=⟨HB.I.1.below HA.I.2,HB.I.2.1.below HA.I.2,HB.I.2.2.trans (HA.I.2.mono HB.I.2.2.size)⟩
    obtain ⟨m0,m1,m2,m3,m4,m5,m6,m7⟩:=cy.I.1.cells;have hll:=fl.I.short.L9;by_cases hlt:k < p.L9.length
    .as_aux_lemma=>
      have i0:(0:Int)<=(k:Int):=zo
      have i1:(k:Int) < (p.L9.length:Int):=zo
      obtain ⟨x,hx⟩: ∃ x,p.L9[k]? =o_ x:=⟨_,Kz hlt⟩
      have hmem:=KA hx;obtain ⟨gs,ha,hat⟩:=j4 cy.I.2.1.2.2.1 hx;have hgs:gs < wr.heap.size:=Le hat.1;have HP:bE (∀ y,p.L9[k - 1]? =o_ y->wr.cell? ⟨gs,(k - 1) * 2,n_⟩=o_ (i_ j_ y.id)):=fun y hy=>by
       obtain ⟨g2,ha2,g8⟩:=j4 cy.I.2.1.2.2.1 hy;exact Zby
      obtain ⟨c0,c1⟩:=hat;rw [ha] at m4;obtain ⟨b,kI,lN⟩:=anx x.id 1 1000;obtain ⟨k1,hk1⟩: ∃ k1,bE (k1=k+1):=⟨_,rfl⟩
      have HV:=fun c hc=>alB (c:=c) (K:=true) hk1.I HA.I.1 hx lN.I hc (rfl)
      have HX:=aA HV;clear hx ha hmem HB HV;by_cases hk0:k=0
      .have dk:decide (0 < k)=false:=decide_eq_false zo
       have HV:=HX.I true (fun e=>decide_eq_true ZcU);clear hk0 HX;cases b
       all_goals
        go_wp2_with fail
        go_quiet ((first
         | (go_at_call_of 27 (x.id); exact L1 (kI.I _))))
        go_wp2
        first
         | (go_ret; exact ⟨al (nk (HV.I.2 rfl)).symm,bd cy.I.2.2 _⟩)
         | (go_roundw; (case rel=>exact ⟨k1,by rw [hk1.I]; omega,by rw [hk1.I]; go_num,⟨HV.I.1 rfl,bd HA.I.2 _⟩⟩); (case measure=>simp [intOf]; omega))
      obtain ⟨j,rfl⟩: ∃ j,k=j+1:=⟨k - 1,zo⟩
      obtain ⟨y,hy⟩: ∃ y,p.L9[j]? =o_ y:=⟨_,Kz zo⟩
      have cp:wr.cell? ⟨gs,j * 2,n_⟩=o_ (i_ j_ y.id):=HP.I y hy;have j0:(0:Int)<=(j:Int):=zo
      have j1:(j:Int) < (p.L9.length:Int):=zo
      have wk:IntKind.i64.wrap (j:Int)=(j:Int):=by rw [K8]; omega
      obtain ⟨c,hc⟩: ∃ c,c=decide (y.id < x.id):=⟨_,rfl⟩
      have HV:=HX.I c (fun _=>by rw [hc]; show decide (_ < x.id)=_; rw [eG hy 0]);have dp:decide (x.id<=y.id)= !c:=by rw [hc,<- decide_not]; exact decide_eq_decide.2 zo
      clear hy hk0 HX hc;cases c
      all_goals
       try simp only [Bool.not_false,Bool.not_true] at dp
       cases b
       all_goals
        go_wp2_with fail
        go_quiet ((first
         | (go_at_call_of 27 (x.id); exact L1 (kI.I _))))
        go_wp2
        first
         | (go_ret; exact ⟨al (nk (HV.I.2 rfl)).symm,bd cy.I.2.2 _⟩)
         | (go_roundw; (case rel=>exact ⟨k1,by rw [hk1.I]; omega,by rw [hk1.I]; go_num,⟨HV.I.1 rfl,bd HA.I.2 _⟩⟩); (case measure=>simp [intOf]; omega))
    .have i1: ¬ (k:Int) < (p.L9.length:Int):=zo
     have wm:bE (aw (fun x:aB=>x.id) ey 0 p.L9=true):=by have:=HA.I.1; rwa [KF zo] at this
     clear HA HB hlt hk hsz hll;go_wp2_with fail;clear i1 m0 m1 m2 m3 m4 m5 m6 m7
     rename w_=>W1
     have HB:bE (av W1 w.heap.size p/\af.At W1 p/\B_ w.heap.size w W1):=cy.I;clear cy
     go_loopw [6] (fun i wr=> ∃ k:Nat,k<=p.ag.length/\i=i_ j_ k/\bE (aw (fun x:az=>x.id) cU 0 (p.ag.take k)=true/\B_ W1.heap.size W1 wr)) (fun i _=>p.ag.length - (intOf i).toNat)
     case atStart=>exact ⟨0,Ky _,rfl,⟨rfl,Kp _ _⟩⟩
     case round=>
      obtain ⟨k,hk,rfl,HA⟩:=hrel;have hsz:w.heap.size < wr.heap.size:=Kn (J2.1 HB.I.1).1 HA.I.2.size;have cy:bE (av wr w.heap.size p/\af.At wr p/\B_ w.heap.size w wr):=⟨HB.I.1.below HA.I.2,HB.I.2.1.below HA.I.2,HB.I.2.2.trans (HA.I.2.mono HB.I.2.2.size)⟩
      obtain ⟨m0,m1,m2,m3,m4,m5,m6,m7⟩:=cy.I.1.cells;have hll:=fl.I.short.ag;by_cases hlt:k < p.ag.length
      .as_aux_lemma=>
        have i0:(0:Int)<=(k:Int):=zo
        have i1:(k:Int) < (p.ag.length:Int):=zo
        obtain ⟨x,hx⟩: ∃ x,p.ag[k]? =o_ x:=⟨_,Kz hlt⟩
        have hmem:=KA hx;obtain ⟨gs,ha,hat⟩:=jr cy.I.2.1.2.2.2.1 hx;have hgs:gs < wr.heap.size:=Le hat.1;have HP:bE (∀ y,p.ag[k - 1]? =o_ y->wr.cell? ⟨gs,(k - 1) * 3,n_⟩=o_ (i_ j_ y.id)):=fun y hy=>by
         obtain ⟨g2,ha2,g8⟩:=jr cy.I.2.1.2.2.2.1 hy;exact Zby
        obtain ⟨c0,c1,c2⟩:=hat;rw [ha] at m5;obtain ⟨b,kI,lN⟩:=anx x.id 1 1000;obtain ⟨b5,lE,H5⟩:=anW (fl.I.ag x hmem);obtain ⟨s,hs⟩: ∃ s,x.shown=s:=⟨_,rfl⟩
        rw [hs] at c1;have H6:=aA hs;clear hs;obtain ⟨t,ht,HT⟩: ∃ t,x.text.toList.isEmpty=t/\bE (bI x.text=t):=⟨_,rfl,rfl⟩
        obtain ⟨k1,hk1⟩: ∃ k1,bE (k1=k+1):=⟨_,rfl⟩
        have HV:=fun c hc=>alB (c:=c) (K:=(b5 && (s || t))) hk1.I HA.I.1 hx lN.I hc (by simp [cU,H5.I,H6.I,HT.I])
        have HX:=aA HV;clear hx ha hmem HB HV;by_cases hk0:k=0
        .have dk:decide (0 < k)=false:=decide_eq_false zo
         have HV:=HX.I true (fun e=>decide_eq_true ZcU);clear hk0 HX;rcases ch2 b b5 with rfl | ⟨rfl,rfl⟩ | ⟨rfl,rfl⟩
         rotate_left 2;cases s;cases t
         all_goals
          go_wp2_with fail
          go_quiet ((first
           | (go_at_call_of 27 (x.id); exact L1 (kI.I _))
           | (go_at_call_of 82 (x.text); exact L1 (lE.I _))))
          go_wp2
          first
           | (go_ret; exact ⟨al (fJ (HV.I.2 rfl)).symm,bd (cy.I.2.2.alloc cy.I.2.2.size _) _⟩)
           | (go_roundw; (case rel=>exact ⟨k1,by rw [hk1.I]; omega,by rw [hk1.I]; go_num,⟨HV.I.1 rfl,bd (HA.I.2.alloc HA.I.2.size _) _⟩⟩); (case measure=>simp [intOf]; omega))
        obtain ⟨j,rfl⟩: ∃ j,k=j+1:=⟨k - 1,zo⟩
        obtain ⟨y,hy⟩: ∃ y,p.ag[j]? =o_ y:=⟨_,Kz zo⟩
        have cp:wr.cell? ⟨gs,j * 3,n_⟩=o_ (i_ j_ y.id):=HP.I y hy;have j0:(0:Int)<=(j:Int):=zo
        have j1:(j:Int) < (p.ag.length:Int):=zo
        have wk:IntKind.i64.wrap (j:Int)=(j:Int):=by rw [K8]; omega
        obtain ⟨c,hc⟩: ∃ c,c=decide (y.id < x.id):=⟨_,rfl⟩
        have HV:=HX.I c (fun _=>by rw [hc]; show decide (_ < x.id)=_; rw [eG hy 0]);have dp:decide (x.id<=y.id)= !c:=by rw [hc,<- decide_not]; exact decide_eq_decide.2 zo
        clear hy hk0 HX hc;cases c
        all_goals
         try simp only [Bool.not_false,Bool.not_true] at dp
         rcases ch2 b b5 with rfl | ⟨rfl,rfl⟩ | ⟨rfl,rfl⟩
         rotate_left 2;cases s;cases t
         all_goals
          go_wp2_with fail
          go_quiet ((first
           | (go_at_call_of 27 (x.id); exact L1 (kI.I _))
           | (go_at_call_of 82 (x.text); exact L1 (lE.I _))))
          go_wp2
          first
           | (go_ret; exact ⟨al (fJ (HV.I.2 rfl)).symm,bd (cy.I.2.2.alloc cy.I.2.2.size _) _⟩)
           | (go_roundw; (case rel=>exact ⟨k1,by rw [hk1.I]; omega,by rw [hk1.I]; go_num,⟨HV.I.1 rfl,bd (HA.I.2.alloc HA.I.2.size _) _⟩⟩); (case measure=>simp [intOf]; omega))
      .have i1: ¬ (k:Int) < (p.ag.length:Int):=zo
       have xD:bE (aw (fun x:az=>x.id) cU 0 p.ag=true):=by have:=HA.I.1; rwa [KF zo] at this
       clear HA HB hlt hk hsz hll;go_wp2_with fail;clear i1 m0 m1 m2 m3 m4 m5 m6 m7
       rename w_=>W2
       have HB:bE (av W2 w.heap.size p/\af.At W2 p/\B_ w.heap.size w W2):=cy.I;clear cy
       go_loopw [8] (fun i wr=> ∃ k:Nat,k<=p.ae.length/\i=i_ j_ k/\bE (aw (fun x:au=>x.id) (fun x:au=>ct x.toci) 0 (p.ae.take k)=true/\B_ W2.heap.size W2 wr)) (fun i _=>p.ae.length - (intOf i).toNat)
       case atStart=>exact ⟨0,Ky _,rfl,⟨rfl,Kp _ _⟩⟩
       case round=>
        obtain ⟨k,hk,rfl,HA⟩:=hrel;have hsz:w.heap.size < wr.heap.size:=Kn (J2.1 HB.I.1).1 HA.I.2.size;have cy:bE (av wr w.heap.size p/\af.At wr p/\B_ w.heap.size w wr):=⟨HB.I.1.below HA.I.2,HB.I.2.1.below HA.I.2,HB.I.2.2.trans (HA.I.2.mono HB.I.2.2.size)⟩
        obtain ⟨m0,m1,m2,m3,m4,m5,m6,m7⟩:=cy.I.1.cells;have hll:=fl.I.short.ae;by_cases hlt:k < p.ae.length
        .as_aux_lemma=>
          have i0:(0:Int)<=(k:Int):=zo
          have i1:(k:Int) < (p.ae.length:Int):=zo
          obtain ⟨x,hx⟩: ∃ x,p.ae[k]? =o_ x:=⟨_,Kz hlt⟩
          have hmem:=KA hx;obtain ⟨gs,ha,hat⟩:=iA cy.I.2.1.2.2.2.2.1 hx;have hgs:gs < wr.heap.size:=Le hat.1;have HP:bE (∀ y,p.ae[k - 1]? =o_ y->wr.cell? ⟨gs,(k - 1) * 3,n_⟩=o_ (i_ j_ y.id)):=fun y hy=>by
           obtain ⟨g2,ha2,g8⟩:=iA cy.I.2.1.2.2.2.2.1 hy;exact Zby
          obtain ⟨c0,c1,c2⟩:=hat;rw [ha] at m6;obtain ⟨b,kI,lN⟩:=anx x.id 1 1000;obtain ⟨b5,lE,H5⟩:=anx x.max 1 5;obtain ⟨t,uE,HT⟩:=anI x.aq x.max (⟨(fl.I.ae x hmem).1,(fl.I.ae x hmem).2,lj cy.I.2.1.2.2.2.2.1 hx⟩:fT wr x.ak x.Ma);obtain ⟨k1,hk1⟩: ∃ k1,bE (k1=k+1):=⟨_,rfl⟩
          have HV:=fun c hc=>alB (c:=c) (K:=(b5 && t)) hk1.I HA.I.1 hx lN.I hc (by simp [ct,H5.I,HT.I])
          have HX:=aA HV;clear hx ha hmem HB HV;by_cases hk0:k=0
          .have dk:decide (0 < k)=false:=decide_eq_false zo
           have HV:=HX.I true (fun e=>decide_eq_true ZcU);clear hk0 HX;rcases ch2 b b5 with rfl | ⟨rfl,rfl⟩ | ⟨rfl,rfl⟩
           rotate_left 2;cases t
           all_goals
            go_wp2_with fail
            go_quiet ((first
             | (go_at_call_of 83 (x.Ma.length); exact L1 (uE.I _ _))
             | (go_at_call_of 27 (x.id); exact L1 (kI.I _))
             | (go_at_call_of 27 (x.max); exact L1 (lE.I _))))
            go_wp2
            first
             | (go_ret; exact ⟨al (fv (HV.I.2 rfl)).symm,bd (cy.I.2.2.alloc cy.I.2.2.size _) _⟩)
             | (go_roundw; (case rel=>exact ⟨k1,by rw [hk1.I]; omega,by rw [hk1.I]; go_num,⟨HV.I.1 rfl,bd (HA.I.2.alloc HA.I.2.size _) _⟩⟩); (case measure=>simp [intOf]; omega))
          obtain ⟨j,rfl⟩: ∃ j,k=j+1:=⟨k - 1,zo⟩
          obtain ⟨y,hy⟩: ∃ y,p.ae[j]? =o_ y:=⟨_,Kz zo⟩
          have cp:wr.cell? ⟨gs,j * 3,n_⟩=o_ (i_ j_ y.id):=HP.I y hy;have j0:(0:Int)<=(j:Int):=zo
          have j1:(j:Int) < (p.ae.length:Int):=zo
          have wk:IntKind.i64.wrap (j:Int)=(j:Int):=by rw [K8]; omega
          obtain ⟨c,hc⟩: ∃ c,c=decide (y.id < x.id):=⟨_,rfl⟩
          have HV:=HX.I c (fun _=>by rw [hc]; show decide (_ < x.id)=_; rw [eG hy 0]);have dp:decide (x.id<=y.id)= !c:=by rw [hc,<- decide_not]; exact decide_eq_decide.2 zo
          clear hy hk0 HX hc;cases c
          all_goals
           try simp only [Bool.not_false,Bool.not_true] at dp
           rcases ch2 b b5 with rfl | ⟨rfl,rfl⟩ | ⟨rfl,rfl⟩
           rotate_left 2;cases t
           all_goals
            go_wp2_with fail
            go_quiet ((first
             | (go_at_call_of 83 (x.Ma.length); exact L1 (uE.I _ _))
             | (go_at_call_of 27 (x.id); exact L1 (kI.I _))
             | (go_at_call_of 27 (x.max); exact L1 (lE.I _))))
            go_wp2
            first
             | (go_ret; exact ⟨al (fv (HV.I.2 rfl)).symm,bd (cy.I.2.2.alloc cy.I.2.2.size _) _⟩)
             | (go_roundw; (case rel=>exact ⟨k1,by rw [hk1.I]; omega,by rw [hk1.I]; go_num,⟨HV.I.1 rfl,bd (HA.I.2.alloc HA.I.2.size _) _⟩⟩); (case measure=>simp [intOf]; omega))
        .have i1: ¬ (k:Int) < (p.ae.length:Int):=zo
         have Fz:bE (aw (fun x:au=>x.id) (fun x=>ct x.toci) 0 p.ae=true):=by have:=HA.I.1; rwa [KF zo] at this
         clear HA HB hlt hk hsz hll;go_wp2_with fail;clear i1 m0 m1 m2 m3 m4 m5 m6 m7
         rename w_=>W3
         have HB:bE (av W3 w.heap.size p/\af.At W3 p/\B_ w.heap.size w W3):=cy.I;clear cy
         go_loopw [10] (fun i wr=> ∃ k:Nat,k<=p.ai.length/\i=i_ j_ k/\bE (aw (fun x:aM=>x.id) (fun x:aM=>dj x.todS) 0 (p.ai.take k)=true/\B_ W3.heap.size W3 wr)) (fun i _=>p.ai.length - (intOf i).toNat)
         case atStart=>exact ⟨0,Ky _,rfl,⟨rfl,Kp _ _⟩⟩
         case round=>
          obtain ⟨k,hk,rfl,HA⟩:=hrel;have hsz:w.heap.size < wr.heap.size:=Kn (J2.1 HB.I.1).1 HA.I.2.size;have cy:bE (av wr w.heap.size p/\af.At wr p/\B_ w.heap.size w wr):=⟨HB.I.1.below HA.I.2,HB.I.2.1.below HA.I.2,HB.I.2.2.trans (HA.I.2.mono HB.I.2.2.size)⟩
          obtain ⟨m0,m1,m2,m3,m4,m5,m6,m7⟩:=cy.I.1.cells;have hll:=fl.I.short.ai;by_cases hlt:k < p.ai.length
          .as_aux_lemma=>
            have i0:(0:Int)<=(k:Int):=zo
            have i1:(k:Int) < (p.ai.length:Int):=zo
            obtain ⟨x,hx⟩: ∃ x,p.ai[k]? =o_ x:=⟨_,Kz hlt⟩
            have hmem:=KA hx;obtain ⟨gs,ha,hat⟩:=lm cy.I.2.1.2.2.2.2.2 hx;have hgs:gs < wr.heap.size:=Le hat.1;have HP:bE (∀ y,p.ai[k - 1]? =o_ y->wr.cell? ⟨gs,(k - 1) * 5,n_⟩=o_ (i_ j_ y.id)):=fun y hy=>by
             obtain ⟨g2,ha2,g8⟩:=lm cy.I.2.1.2.2.2.2.2 hy;exact Zby
            obtain ⟨c0,c1,c2,c3,c4⟩:=hat;rw [ha] at m7;obtain ⟨b,kI,lN⟩:=anx x.id 1 1000;obtain ⟨b5,lE,H5⟩:=anx x.max 1 5;obtain ⟨t,uE,HT⟩:=anI x.aq x.max (⟨(fl.I.ai x hmem).1,(fl.I.ai x hmem).2,nJ cy.I.2.1.2.2.2.2.2 hx⟩:fT wr x.ak x.Ma);obtain ⟨s,hs⟩: ∃ s,x.Mf=s:=⟨_,rfl⟩
            rw [hs] at c2;have H6:=aA hs;clear hs;obtain ⟨u,hu,HU⟩: ∃ u,(x.max != 1)=u/\bE (decide (x.max=1)= !u):=⟨_,rfl,aA (by simp [bne,Bool.beq_eq_decide_eq])⟩
            obtain ⟨k1,hk1⟩: ∃ k1,bE (k1=k+1):=⟨_,rfl⟩
            have HV:=fun c hc=>alB (c:=c) (K:=(b5 && ((s || !u) && t))) hk1.I HA.I.1 hx lN.I hc (by simp only [dj,H5.I,H6.I,HT.I,HU.I]; cases b5 <;> cases s <;> cases u <;> cases t <;> rfl)
            have HX:=aA HV;clear hx ha hmem HB HV;by_cases hk0:k=0
            .have dk:decide (0 < k)=false:=decide_eq_false zo
             have HV:=HX.I true (fun e=>decide_eq_true ZcU);clear hk0 HX;rcases ch2 b b5 with rfl | ⟨rfl,rfl⟩ | ⟨rfl,rfl⟩
             rotate_left 2;cases s;cases u;cases t;rotate_left 2;rotate_left 1;cases t
             all_goals
              go_wp2_with fail
              go_quiet ((first
               | (go_at_call_of 83 (x.Ma.length); exact L1 (uE.I _ _))
               | (go_at_call_of 27 (x.id); exact L1 (kI.I _))
               | (go_at_call_of 27 (x.max); exact L1 (lE.I _))))
              go_wp2
              first
               | (go_ret; exact ⟨al (eg (HV.I.2 rfl)).symm,bd (cy.I.2.2.alloc cy.I.2.2.size _) _⟩)
               | (go_roundw; (case rel=>exact ⟨k1,by rw [hk1.I]; omega,by rw [hk1.I]; go_num,⟨HV.I.1 rfl,bd (HA.I.2.alloc HA.I.2.size _) _⟩⟩); (case measure=>simp [intOf]; omega))
            obtain ⟨j,rfl⟩: ∃ j,k=j+1:=⟨k - 1,zo⟩
            obtain ⟨y,hy⟩: ∃ y,p.ai[j]? =o_ y:=⟨_,Kz zo⟩
            have cp:wr.cell? ⟨gs,j * 5,n_⟩=o_ (i_ j_ y.id):=HP.I y hy;have j0:(0:Int)<=(j:Int):=zo
            have j1:(j:Int) < (p.ai.length:Int):=zo
            have wk:IntKind.i64.wrap (j:Int)=(j:Int):=by rw [K8]; omega
            obtain ⟨c,hc⟩: ∃ c,c=decide (y.id < x.id):=⟨_,rfl⟩
            have HV:=HX.I c (fun _=>by rw [hc]; show decide (_ < x.id)=_; rw [eG hy 0]);have dp:decide (x.id<=y.id)= !c:=by rw [hc,<- decide_not]; exact decide_eq_decide.2 zo
            clear hy hk0 HX hc;cases c
            all_goals
             try simp only [Bool.not_false,Bool.not_true] at dp
             rcases ch2 b b5 with rfl | ⟨rfl,rfl⟩ | ⟨rfl,rfl⟩
             rotate_left 2;cases s;cases u;cases t;rotate_left 2;rotate_left 1;cases t
             all_goals
              go_wp2_with fail
              go_quiet ((first
               | (go_at_call_of 83 (x.Ma.length); exact L1 (uE.I _ _))
               | (go_at_call_of 27 (x.id); exact L1 (kI.I _))
               | (go_at_call_of 27 (x.max); exact L1 (lE.I _))))
              go_wp2
              first
               | (go_ret; exact ⟨al (eg (HV.I.2 rfl)).symm,bd (cy.I.2.2.alloc cy.I.2.2.size _) _⟩)
               | (go_roundw; (case rel=>exact ⟨k1,by rw [hk1.I]; omega,by rw [hk1.I]; go_num,⟨HV.I.1 rfl,bd (HA.I.2.alloc HA.I.2.size _) _⟩⟩); (case measure=>simp [intOf]; omega))
          .have i1: ¬ (k:Int) < (p.ai.length:Int):=zo
           have FA:bE (aw (fun x:aM=>x.id) (fun x=>dj x.todS) 0 p.ai=true):=by have:=HA.I.1; rwa [KF zo] at this
           clear HA HB hlt hk hsz hll;have hs:=fl.I.short;have l0:=hs.aj;have l1:=hs.L9;have l2:=hs.ag;have l3:=hs.ae;have l4:=hs.ai;clear hs;cases d0:decide ((p.aj.length:Int)<=5)
           .have HN:bE (bv p=false):=wP d0
            exact ZaS
           cases d1:decide ((p.L9.length:Int)<=5)
           .have HN:bE (bv p=false):=wS d1
            exact ZaS
           cases d2:decide ((p.ag.length:Int)<=5)
           .have HN:bE (bv p=false):=wL d2
            exact ZaS
           cases d3:decide ((p.ae.length:Int)<=5)
           .have HN:bE (bv p=false):=wJ d3
            exact ZaS
           cases d4:decide ((p.ai.length:Int)<=5)
           .have HN:bE (bv p=false):=wv d4
            exact ZaS
           have HY:bE (bv p=true):=yC Hz.I wm.I xD.I Fz.I FA.I d0 d1 d2 d3 d4;go_wp2;go_ret;exact ⟨al HY.I.symm,cy.I.2.2⟩
end
section
attribute [local go_sem ↓] Go.wp_at_zero Go.wp_at_succ
def oQ (p:af) (x:ao):Bool:=cH x.toaD && fF p.next x.toaD && dG p.pure x.toaD
def rG (p:af) (x:ao):bh p.pure x.toaD=(cv x.id 1 1000 && oQ p x):=by
 show (cv x.id 1 1000 && cH x.toaD && fF p.next x.toaD && dG p.pure x.toaD)=_
 simp only [oQ,Bool.and_assoc]
def lR (l:List ao):Prop:=(l.map (·.RU)).Pairwise (fun a b=> ¬ (a=b/\0 < b))
def uU {l:List ao} {k:Nat} {x:ao} (hx:l[k]? =o_ x) (h:lR (l.take k)) (hn: ∀ m y,m < k->l[m]? =o_ y-> ¬ (y.RU=x.RU/\0 < x.RU)):lR (l.take (k+1)):=by
 rw [cj hx];unfold lR;rw [Kl,List.pairwise_append];refine ⟨h,List.pairwise_singleton _ _,fun a ha b hb=> ?_⟩;simp only [Lt,QV,Kt,Ku,or_false] at hb;subst hb;obtain ⟨y,hy,rfl⟩:=Lr.1 ha;obtain ⟨m,hm⟩:=List.mem_iff_getElem?.1 hy;rw [QW] at hm
 split at hm
 .rename_i hlt
  exact hn m y hlt hm
 .cases hm
def xn {l:List ao} {i m:Nat} {x y:ao} (hx:l[i]? =o_ x) (hy:l[m]? =o_ y) (hm:m < i) (h:y.RU=x.RU/\0 < x.RU): ¬ lR l:=fun ha=>by
 unfold lR at ha;rw [Qm,P8] at ha;obtain ⟨hi,rfl⟩:=Lj.1 hx;obtain ⟨hj,rfl⟩:=Lj.1 hy;exact ha m i hj hi hm h
def jk (p:af):aQ p.pure↔(cv p.id 1 6=true/\cv p.next 1 1000000000=true/\p.L8.length<=6/\bv p=true/\aw (fun x:ao=>x.id) (oQ p) 0 p.L8=true/\lR p.L8):=by
 have e1:aw (·.id) (fun x=>cH x && fF p.pure.next x && dG p.pure x) 0 p.pure.L8=aw (fun x:ao=>x.id) (oQ p) 0 p.L8:=jL _ _ _ _ _;have e2:p.pure.L8.length=p.L8.length:=by simp [af.pure]
 have e3:aw (·.id) ct 0 p.pure.ae=aw (fun x:au=>x.id) (fun x=>ct x.toci) 0 p.ae:=jL _ _ _ _ _;have e4:aw (·.id) dj 0 p.pure.ai=aw (fun x:aM=>x.id) (fun x=>dj x.todS) 0 p.ai:=jL _ _ _ _ _;have e5:p.pure.ae.length=p.ae.length:=by simp [af.pure]
 have e6:p.pure.ai.length=p.ai.length:=by simp [af.pure]
 have e7:rb p.pure.L8↔lR p.L8:=by
  unfold rb lR
  show (((p.L8.map (·.toaD))).map (·.RU)).Pairwise _↔_
  rw [Lv];rfl
 constructor
 .intro h
  have hp:=h.L8;rw [e1] at hp;have hb:=h.ae;rw [e3] at hb;have hq:=h.ai;rw [e4] at hq;have n1:=h.dl;have n2:=h.cb;have n3:=h.dH;rw [e2] at n1;rw [e5] at n2;rw [e6] at n3;have hs:aw (fun x:bD=>x.id) gw 0 p.aj=true:=h.aj;have he:aw (fun x:aB=>x.id) ey 0 p.L9=true:=h.L9;have hd:aw (fun x:az=>x.id) cU 0 p.ag=true:=h.ag;have l1:p.aj.length<=5:=h.fx;have l2:p.L9.length<=5:=h.cD;have l3:p.ag.length<=5:=h.cC;refine ⟨h.id,h.next,n1,?_,hp,e7.1 h.apart⟩;simp only [bv,hs,he,hd,hb,hq,decide_eq_true l1,decide_eq_true l2,decide_eq_true l3,decide_eq_true n2,decide_eq_true n3,Bool.and_self]
 .rintro ⟨h1,h2,h3,h4,h5,h6⟩
  simp only [bv,J7,decide_eq_true_eq] at h4;obtain ⟨⟨⟨⟨⟨⟨⟨⟨⟨t1,t2⟩,t3⟩,t4⟩,t5⟩,d1⟩,d2⟩,d3⟩,d4⟩,d5⟩:=h4;exact ⟨h1,h2,by rw [e2]; exact h3,d1,d2,d3,by rw [e5]; exact d4,by rw [e6]; exact d5,by rw [e1]; exact h5,t1,t2,t3,by rw [e3]; exact t4,by rw [e4]; exact t5,e7.2 h6⟩
def zX (w:w_) (p:af) (x:ao) (gs k:Nat) (pre:w_->Prop) (w':w_):Prop:=((w'.cell? ⟨w.heap.size,0,n_⟩=o_ (i_ j_ p.id)/\w'.cell? ⟨w.heap.size,1,n_⟩=o_ (i_ j_ p.next)/\w'.cell? ⟨w.heap.size,2,n_⟩=o_ (s_ (o_ ⟨gs,0,n_⟩) p.L8.length p.aW)/\w'.cell? ⟨w.heap.size,3,n_⟩=o_ (s_ p.bc p.aj.length p.bF)/\w'.cell? ⟨w.heap.size,4,n_⟩=o_ (s_ p.ay p.L9.length p.aO)/\w'.cell? ⟨w.heap.size,5,n_⟩=o_ (s_ p.ax p.ag.length p.aP)/\w'.cell? ⟨w.heap.size,6,n_⟩=o_ (s_ p.am p.ae.length p.aG)/\w'.cell? ⟨w.heap.size,7,n_⟩=o_ (s_ p.aK p.ai.length p.aV))/\(w'.cell? ⟨gs,k * 12,n_⟩=o_ (i_ j_ x.id)/\w'.cell? ⟨gs,k * 12+1,n_⟩=o_ (i_ j_ x.RX)/\w'.cell? ⟨gs,k * 12+2,n_⟩=o_ (s_ x.aY x.prog.length x.bH)/\w'.cell? ⟨gs,k * 12+3,n_⟩=o_ (i_ j_ x.Md)/\w'.cell? ⟨gs,k * 12+4,n_⟩=o_ (i_ j_ x.pc)/\w'.cell? ⟨gs,k * 12+5,n_⟩=o_ (i_ j_ x.left)/\w'.cell? ⟨gs,k * 12+6,n_⟩=o_ (i_ j_ x.Mg)/\w'.cell? ⟨gs,k * 12+7,n_⟩=o_ (i_ j_ x.on)/\w'.cell? ⟨gs,k * 12+8,n_⟩=o_ (t_ x.held)/\w'.cell? ⟨gs,k * 12+9,n_⟩=o_ (t_ x.got)/\w'.cell? ⟨gs,k * 12+10,n_⟩=o_ (i_ j_ x.code)/\w'.cell? ⟨gs,k * 12+11,n_⟩=o_ (i_ j_ x.RU))/\pre w')/\bE (av w' w.heap.size p/\af.At w' p/\B_ w.heap.size w w')
def kQ {w w':w_} {p:af} {x:ao} {gs k:Nat} {pre:w_->Prop} (ha:p.aN=o_ ⟨gs,0,n_⟩) (hx:p.L8[k]? =o_ x) (h:av w' w.heap.size p/\af.At w' p/\B_ w.heap.size w w') (hp:pre w'):zX w p x gs k pre w':=by
 refine ⟨⟨?_,?_,hp⟩,h⟩
 .have:=h.1.cells
  rw [ha] at this;exact this
 .obtain ⟨g,e,hat⟩:=cn h.2.1.1 hx
  rw [ha] at e;cases e;exact hat
def rk (gs j:Nat) (y:ao) (w':w_):Prop:=w'.cell? ⟨gs,j * 12,n_⟩=o_ (i_ j_ y.id)
def rh {w':w_} {p:af} {gs j:Nat} {y:ao} (ha:p.aN=o_ ⟨gs,0,n_⟩) (hy:p.L8[j]? =o_ y) (h:af.At w' p):rk gs j y w':=by
 obtain ⟨g,e,hat⟩:=cn h.1 hy;rw [ha] at e;cases e;exact hat.1
def eV (p:af) (w:w_) (hf:p.Fit) (hs: ∀ x∈p.L8,x.dX) (h:af.At w p):
  k_ J3 26 #[a_ p.cells] w fun e w'=>e=r_ (b_ (bK p.pure))/\B_ w.heap.size w w':=by
 have HB:bE (av (w.alloc (c_ p.cells 31)) w.heap.size p/\af.At (w.alloc (c_ p.cells 31)) p/\B_ w.heap.size w (w.alloc (c_ p.cells 31))):=⟨Kj _ _,h.below ((Kp _ _).alloc (Ki _) _),(Kp _ _).alloc (Ki _) _⟩
 have fl:bE (p.Fit/\ ∀ x∈p.L8,x.dX):=⟨hf,hs⟩
 have hpl:=hf.short.L8;clear h hf hs;obtain ⟨m0,m1,m2,m3,m4,m5,m6,m7⟩:=HB.I.1.cells;unfold af.cells at *
 go_enter func26,ntmps26
 go_wp2_with fail;generalize w.alloc (c_ p.row 31)=W at *;refine (dx p.id 1 6 _).mono ?_;rintro e w9 ⟨rfl,mW⟩;rw [mW];clear mW w9;cases h1:cv p.id 1 6
 .have hz:True:=trivial
  have HN:bE (bK p.pure=false):=dL fun hr=>by have:=((jk p).1 hr).1; rw [h1] at this; cases this
  clear h1;exact ZbX
 have H1:bE (cv p.id 1 6=true):=h1;clear h1;go_wp2_with fail;refine (dx p.next 1 1000000000 _).mono ?_;rintro e w9 ⟨rfl,mW⟩;rw [mW];clear mW w9;cases h2:cv p.next 1 1000000000
 .have hz:True:=trivial
  have HN:bE (bK p.pure=false):=dL fun hr=>by have:=((jk p).1 hr).2.1; rw [h2] at this; cases this
  clear h2;exact ZbX
 have H2:bE (cv p.next 1 1000000000=true):=h2;clear h2;by_cases h3:(6:Int) < (p.L8.length:Int)
 .have hz:True:=trivial
  have HN:bE (bK p.pure=false):=dL fun hr=>by have:=((jk p).1 hr).2.2.1; omega
  exact ZbX
 have H3:bE (p.L8.length<=6):=by show p.L8.length<=6; omega
 go_wp2_with fail;refine (zI p W fl.I.1 HB.I.2.1).mono ?_;rintro e W1 ⟨rfl,hb1⟩;have fQ:bE (av W1 w.heap.size p/\af.At W1 p/\B_ w.heap.size w W1):=⟨HB.I.1.below hb1,HB.I.2.1.below hb1,HB.I.2.2.trans (hb1.mono HB.I.2.2.size)⟩
 clear hb1 m0 m1 m2 m3 m4 m5 m6 m7 HB;cases h4:bv p
 .have hz:True:=trivial
  have HN:bE (bK p.pure=false):=dL fun hr=>by have:=((jk p).1 hr).2.2.2.1; rw [h4] at this; cases this
  clear h4;go_wp2;go_ret;exact ⟨al HN.I.symm,fQ.I.2.2⟩
 have H4:bE (bv p=true):=h4;clear h4;go_wp2_with fail
 go_loopw [3] (fun i wr=> ∃ k:Nat,k<=p.L8.length/\i=i_ j_ k/\bE (aw (fun x:ao=>x.id) (oQ p) 0 (p.L8.take k)=true/\lR (p.L8.take k)/\B_ W1.heap.size W1 wr)) (fun i _=>p.L8.length - (intOf i).toNat)
 case atStart=>exact ⟨0,Ky _,rfl,⟨rfl,List.Pairwise.nil,Kp _ _⟩⟩
 case round=>
  obtain ⟨k,hk,rfl,HA⟩:=hrel;have cy:bE (av wr w.heap.size p/\af.At wr p/\B_ w.heap.size w wr):=⟨fQ.I.1.below HA.I.2.2,fQ.I.2.1.below HA.I.2.2,fQ.I.2.2.trans (HA.I.2.2.mono fQ.I.2.2.size)⟩
  obtain ⟨m0,m1,m2,m3,m4,m5,m6,m7⟩:=cy.I.1.cells;by_cases hlt:k < p.L8.length
  .have i0:(0:Int)<=(k:Int):=zo
   have i1:(k:Int) < (p.L8.length:Int):=zo
   obtain ⟨x,hx⟩: ∃ x,p.L8[k]? =o_ x:=⟨_,Kz hlt⟩
   have hmem:=KA hx;obtain ⟨gs,ha,hat⟩:=cn cy.I.2.1.1 hx;have mR:bE (p.aN=o_ ⟨gs,0,n_⟩/\p.L8[k]? =o_ x):=⟨ha,hx⟩
   have HXS:bE (x.dX/\Row wr x.aY (fk.flat x.prog)):=⟨fl.I.2 x hmem,lA cy.I.2.1.1 hx⟩
   have Jf:bE (1<=p.next/\p.next<=1000000000):=bz.1 H2.I;rw [ha] at m2;clear hx hmem ha hat;go_wp2_with fail;cases td:bh p.pure x.toaD
   .have HPO:bE (bh p.pure x.toaD=false):=td
    have HN:bE (bK p.pure=false):=dL fun hr=>by have h9:=((jk p).1 hr).2.2.2.2.1; rw [bS mR.I.2 (fun hh=>by have h8:=HPO.I; rw [rG,hh.1,hh.2.2] at h8; cases h8)] at h9; cases h9
    clear td m0 m1 m2 m3 m4 m5 m6 m7;refine aT (zX w p x gs k (fun _=>True)) ZcE (kQ mR.I.1 mR.I.2 ⟨cy.I.1,cy.I.2.1,cy.I.2.2.drew⟩ trivial) ?_
    iterate 6 (refine PI ?_ (hy:=fun w0 hS0=>by obtain ⟨⟨⟨q0,q1,q2,q3,q4,q5,q6,q7⟩,⟨x0,x1,x2,x3,x4,x5,x6,x7,x8,x9,x10,Dm⟩,hpre⟩,hH⟩:=hS0; go_simp; try with_reducible rfl))
    refine cl (b_ false) 42 #[a_ (p.L6 gs),a_ x.row] ?_ ?_ ?_
    .intro w0 hS0
     obtain ⟨⟨⟨q0,q1,q2,q3,q4,q5,q6,q7⟩,⟨x0,x1,x2,x3,x4,x5,x6,x7,x8,x9,x10,Dm⟩,hpre⟩,hH⟩:=hS0
     exact BC
    .intro w0 hS0
     have hq:=hS0.2.I;rw [show (Value.agg (p.L6 gs))=a_ p.cells by unfold af.cells; rw [mR.I.1]];refine (lk p x w0 fl.I.1.short HXS.I.1 Jf.I.1 Jf.I.2 hq.2.1 (lA hq.2.1.1 mR.I.2)).mono ?_;rintro e w2 ⟨rfl,hb2⟩;exact ⟨al HPO.I,kQ mR.I.1 mR.I.2 ⟨hq.1.below hb2,hq.2.1.below hb2,hq.2.2.trans (hb2.mono hq.2.2.size)⟩ trivial⟩
    simp only [pt,sb,s0,s1]
    iterate 2 (refine PI ?_ (hy:=fun w0 hS0=>by obtain ⟨⟨⟨q0,q1,q2,q3,q4,q5,q6,q7⟩,⟨x0,x1,x2,x3,x4,x5,x6,x7,x8,x9,x10,Dm⟩,hpre⟩,hH⟩:=hS0; go_simp; try with_reducible rfl))
    iterate 18 (refine nl ?_; simp only [pt,sb,s0,s1])
    (refine PI ?_ (hy:=fun w0 hS0=>by obtain ⟨⟨⟨q0,q1,q2,q3,q4,q5,q6,q7⟩,⟨x0,x1,x2,x3,x4,x5,x6,x7,x8,x9,x10,Dm⟩,hpre⟩,hH⟩:=hS0; go_simp; try with_reducible rfl))
    refine bk ZcE ?_ _;intro w1 cm;have HZ:bE (B_ w.heap.size w w1):=cm.2.I.2.2;clear cm;go_wp2;go_ret;exact ⟨al HN.I.symm,HZ.I⟩
   have HPO:bE (bh p.pure x.toaD=true):=td;have lN:bE (cv x.id 1 1000=true/\oQ p x=true):=by have h8:=HPO.I; rw [rG,J7] at h8; exact h8
   clear td;by_cases hk0:k=0
   .have dk:decide (0 < k)=false:=decide_eq_false zo
    have j6:bE (bW (fun x:ao=>x.id) 0 (p.L8.take k) < x.id):=by show _ < _; rw [hk0,lx]; have:=bz.1 lN.I.1; omega
    clear hk0 m0 m1 m2 m3 m4 m5 m6 m7;refine aT (fun w'=>zX w p x gs k (fun _=>True) w'/\bE (B_ wr.heap.size wr w')) ZcE ⟨kQ mR.I.1 mR.I.2 ⟨cy.I.1,cy.I.2.1,cy.I.2.2.drew⟩ trivial,(Kp _ _).drew⟩ ?_
    iterate 6 (refine PI ?_ (hy:=fun w0 hS0=>by obtain ⟨⟨⟨⟨q0,q1,q2,q3,q4,q5,q6,q7⟩,⟨x0,x1,x2,x3,x4,x5,x6,x7,x8,x9,x10,Dm⟩,hpre⟩,hH⟩,hH2⟩:=hS0; go_simp; try with_reducible rfl))
    refine cl (b_ true) 42 #[a_ (p.L6 gs),a_ x.row] ?_ ?_ ?_
    .intro w0 hS0
     obtain ⟨⟨⟨⟨q0,q1,q2,q3,q4,q5,q6,q7⟩,⟨x0,x1,x2,x3,x4,x5,x6,x7,x8,x9,x10,Dm⟩,hpre⟩,hH⟩,hH2⟩:=hS0
     exact BC
    .intro w0 hS0
     have hq:=hS0.1.2.I;rw [show (Value.agg (p.L6 gs))=a_ p.cells by unfold af.cells; rw [mR.I.1]];refine (lk p x w0 fl.I.1.short HXS.I.1 Jf.I.1 Jf.I.2 hq.2.1 (lA hq.2.1.1 mR.I.2)).mono ?_;rintro e w2 ⟨rfl,hb2⟩;exact ⟨al HPO.I,kQ mR.I.1 mR.I.2 ⟨hq.1.below hb2,hq.2.1.below hb2,hq.2.2.trans (hb2.mono hq.2.2.size)⟩ trivial,hS0.2.I.trans (hb2.mono hS0.2.I.size)⟩
    simp only [pt,sb,s0,s1]
    iterate 5 (refine PI ?_ (hy:=fun w0 hS0=>by obtain ⟨⟨⟨⟨q0,q1,q2,q3,q4,q5,q6,q7⟩,⟨x0,x1,x2,x3,x4,x5,x6,x7,x8,x9,x10,Dm⟩,hpre⟩,hH⟩,hH2⟩:=hS0; go_simp; try with_reducible rfl))
    iterate 14 (refine nl ?_; simp only [pt,sb,s0,s1])
    iterate 2 (refine PI ?_ (hy:=fun w0 hS0=>by obtain ⟨⟨⟨⟨q0,q1,q2,q3,q4,q5,q6,q7⟩,⟨x0,x1,x2,x3,x4,x5,x6,x7,x8,x9,x10,Dm⟩,hpre⟩,hH⟩,hH2⟩:=hS0; go_simp; try with_reducible rfl))
    exact aa
   obtain ⟨j,hj⟩: ∃ j,k=j+1:=⟨k - 1,zo⟩
   obtain ⟨y,hy⟩: ∃ y,p.L8[j]? =o_ y:=⟨_,Kz zo⟩
   have j0:(0:Int)<=(j:Int):=zo
   have j1:(j:Int) < (p.L8.length:Int):=zo
   have dk:decide (0 < k)=true:=decide_eq_true zo;have wk:IntKind.i64.wrap ((k:Int) - 1)=(j:Int):=by rw [K8]; omega
   have wV:bE (bW (fun x:ao=>x.id) 0 (p.L8.take k)=y.id/\p.L8[j]? =o_ y):=⟨by rw [hj]; exact eG hy 0,hy⟩
   clear hj hy hk0 m0 m1 m2 m3 m4 m5 m6 m7;by_cases hle:x.id<=y.id
   .have dp:decide (x.id<=y.id)=true:=decide_eq_true hle
    have HN:bE (bK p.pure=false):=dL fun hr=>by have h9:=((jk p).1 hr).2.2.2.2.1; rw [bS mR.I.2 (fun hh=>by have h8:=hh.2.1; rw [wV.I.1] at h8; have h8:y.id < x.id:=h8; omega)] at h9; cases h9
    refine aT (fun w'=>zX w p x gs k (rk gs j y) w'/\bE (B_ wr.heap.size wr w')) ZcE ⟨kQ mR.I.1 mR.I.2 ⟨cy.I.1,cy.I.2.1,cy.I.2.2.drew⟩ (rh mR.I.1 wV.I.2 cy.I.2.1),(Kp _ _).drew⟩ ?_
    iterate 6 (refine PI ?_ (hy:=fun w0 hS0=>by obtain ⟨⟨⟨⟨q0,q1,q2,q3,q4,q5,q6,q7⟩,⟨x0,x1,x2,x3,x4,x5,x6,x7,x8,x9,x10,Dm⟩,hpre⟩,hH⟩,hH2⟩:=hS0; unfold rk at hpre; go_simp; try with_reducible rfl))
    refine cl (b_ true) 42 #[a_ (p.L6 gs),a_ x.row] ?_ ?_ ?_
    .exact Zct
    .exact CE
    simp only [pt,sb,s0,s1]
    iterate 21 (refine PI ?_ (hy:=fun w0 hS0=>by obtain ⟨⟨⟨⟨q0,q1,q2,q3,q4,q5,q6,q7⟩,⟨x0,x1,x2,x3,x4,x5,x6,x7,x8,x9,x10,Dm⟩,hpre⟩,hH⟩,hH2⟩:=hS0; unfold rk at hpre; go_simp; try with_reducible rfl))
    refine bk ZcE ?_ _;intro w1 cm;have HZ:bE (B_ w.heap.size w w1):=cm.1.2.I.2.2;clear cm;go_wp2;go_ret;exact ⟨al HN.I.symm,HZ.I⟩
   have dp:decide (x.id<=y.id)=false:=decide_eq_false hle;have j6:bE (bW (fun x:ao=>x.id) 0 (p.L8.take k) < x.id):=by show _ < _; rw [wV.I.1]; show y.id < x.id; omega
   clear hle;refine aT (fun w'=>zX w p x gs k (rk gs j y) w'/\bE (B_ wr.heap.size wr w')) ZcE ⟨kQ mR.I.1 mR.I.2 ⟨cy.I.1,cy.I.2.1,cy.I.2.2.drew⟩ (rh mR.I.1 wV.I.2 cy.I.2.1),(Kp _ _).drew⟩ ?_
   iterate 6 (refine PI ?_ (hy:=fun w0 hS0=>by obtain ⟨⟨⟨⟨q0,q1,q2,q3,q4,q5,q6,q7⟩,⟨x0,x1,x2,x3,x4,x5,x6,x7,x8,x9,x10,Dm⟩,hpre⟩,hH⟩,hH2⟩:=hS0; unfold rk at hpre; go_simp; try with_reducible rfl))
   refine cl (b_ true) 42 #[a_ (p.L6 gs),a_ x.row] ?_ ?_ ?_
   .exact Zct
   .exact CE
   simp only [pt,sb,s0,s1]
   iterate 21 (refine PI ?_ (hy:=fun w0 hS0=>by obtain ⟨⟨⟨⟨q0,q1,q2,q3,q4,q5,q6,q7⟩,⟨x0,x1,x2,x3,x4,x5,x6,x7,x8,x9,x10,Dm⟩,hpre⟩,hH⟩,hH2⟩:=hS0; unfold rk at hpre; go_simp; try with_reducible rfl))
   exact aa
  .have i1: ¬ (k:Int) < (p.L8.length:Int):=zo
   have ek:p.L8.take k=p.L8:=KF zo;have HY:bE (bK p.pure=true):=fP ((jk p).2 ⟨H1.I,H2.I,H3.I,H4.I,by have:=HA.I.1; rwa [ek] at this,by have:=HA.I.2.1; rwa [ek] at this⟩);clear ek;go_wp2;go_ret;exact ⟨al HY.I.symm,cy.I.2.2⟩
def ij (p:af) (st on:Int) (w:w_) (hl:p.L8.length<=1048576) (h:af.At w p):
  k_ J3 44 #[a_ p.cells,i_ j_ st,i_ j_ on] w fun e w'=>(∃ i:Int,e=r_ (i_ j_ i)/\dO (fun x:aD=>decide (x.Md=st) && decide (x.on=on)) p.pure.L8 p.L8.length i)/\B_ w.heap.size w w':=by
 have HB:bE (av (w.alloc (c_ p.cells 31)) w.heap.size p/\af.At (w.alloc (c_ p.cells 31)) p/\B_ w.heap.size w (w.alloc (c_ p.cells 31))):=⟨Kj _ _,h.below ((Kp _ _).alloc (Ki _) _),(Kp _ _).alloc (Ki _) _⟩
 clear h;unfold af.cells at *
 go_enter func44,ntmps44
 go_wp2_with fail;generalize w.alloc (c_ p.row 31)=W at *
 go_loopw [7,8] (fun b i wr=> ∃ (k:Nat) (z:Int),k<=p.L8.length/\i=i_ j_ k/\b=i_ j_ z/\bE (dO (fun x:aD=>decide (x.Md=st) && decide (x.on=on)) p.pure.L8 k z/\B_ W.heap.size W wr)) (fun _ i _=>p.L8.length - (intOf i).toNat)
 case atStart=>exact ⟨0,-1,Ky _,rfl,rfl,⟨dO.start _ _,Kp _ _⟩⟩
 case round=>
  obtain ⟨k,z,hk,rfl,rfl,HA⟩:=hrel;have HW:bE (av wr w.heap.size p/\af.At wr p/\B_ w.heap.size w wr):=⟨HB.I.1.below HA.I.2,HB.I.2.1.below HA.I.2,HB.I.2.2.trans (HA.I.2.mono HB.I.2.2.size)⟩
  obtain ⟨-,-,m2,-⟩:=HW.I.1.cells;by_cases hlt:k < p.L8.length
  .have i0:(0:Int)<=(k:Int):=zo
   have i1:(k:Int) < (p.L8.length:Int):=zo
   obtain ⟨x,hx⟩: ∃ x,p.L8[k]? =o_ x:=⟨_,Kz hlt⟩
   have HX:bE (p.L8[k]? =o_ x/\p.pure.L8[k]? =o_ x.toaD):=⟨hx,by show (p.L8.map (·.toaD))[k]? =_; rw [Kk,hx]; rfl⟩
   obtain ⟨gs,ha,hat⟩:=cn HW.I.2.1.1 hx;have HG:bE (p.aN=o_ ⟨gs,0,n_⟩):=ha;rw [ha] at m2;obtain ⟨d0,d1,d2,d3,d4,d5,d6,d7,d8,d9,tH,tS⟩:=hat;clear hx ha;have hgl:w.heap.size < wr.heap.size:=(J2.1 HW.I.1).1;have HN:bE (av (wr.alloc (c_ x.row 41)) w.heap.size p/\af.At (wr.alloc (c_ x.row 41)) p/\jx (wr.alloc (c_ x.row 41)) wr.heap.size x/\B_ W.heap.size W (wr.alloc (c_ x.row 41))):=⟨HW.I.1.below ((Kp _ _).alloc (Ki _) _),HW.I.2.1.below ((Kp _ _).alloc (Ki _) _),Kj _ _,HA.I.2.alloc HA.I.2.size _⟩
   by_cases hs:x.Md=st
   .by_cases ho:x.on=on
    .have HF:bE ((fun x:aD=>decide (x.Md=st) && decide (x.on=on)) x.toaD=true):=by show _=true; simp [hs,ho]
     have e1:(x.Md != st)=false:=by simp [hs]
     have e2:(x.on != on)=false:=by simp [ho]
     clear hs ho;go_wp2_with fail;generalize wr.alloc (c_ x.row 41)=W5 at *;generalize wr.heap.size=X at *;clear d0 d1 d2 d3 d4 d5 d6 d7 d8 d9 tH tS m2 e1 e2 hgl;obtain ⟨-,-,m2,-⟩:=HN.I.1.cells;rw [HG.I] at m2;obtain ⟨-,b1,-,-,-,-,-,-,-,-,-,b11⟩:=HN.I.2.2.1.cells;by_cases hz:z < 0
     .have afO:decide (z < 0)=true:=decide_eq_true hz
      have HY:bE (dO (fun x:aD=>decide (x.Md=st) && decide (x.on=on)) p.pure.L8 (k+1) k):=HA.I.1.first hz HX.I.2 HF.I;refine aT (fun w'=>w'=W5.drew) ZcE rfl ?_
      iterate 3 (refine agj ?_)
      iterate 9 (refine ty (o_ _) rfl rfl ZcE (fun _ _ _ h=>h) (np ZcE) ?_; simp only [pt,sb,s0,s1])
      iterate 2 (refine agj ?_)
      exact Zcv
     have afO:decide (z < 0)=false:=decide_eq_false hz;obtain ⟨n,y0,hzn,hn,hy0,hbe⟩:=HA.I.1.got hz;subst hzn;have Fm:bE (dO (fun x:aD=>decide (x.Md=st) && decide (x.on=on)) p.pure.L8 (k+1) (if dF x.toaD y0 then (k:Int) else (n:Int))):=dO.next hn hy0 hbe HX.I.2 HF.I;obtain ⟨y,hy,rfl⟩: ∃ y,p.L8[n]? =o_ y/\y.toaD=y0:=by
      have h5:(p.L8.map (·.toaD))[n]? =o_ y0:=hy0;rw [Kk,Kw] at h5;exact h5
     have j0:(0:Int)<=(n:Int):=zo
     have j1:(n:Int) < (p.L8.length:Int):=zo
     obtain ⟨gs2,ha2,g8⟩:=cn HN.I.2.1.1 hy;rw [HG.I] at ha2;cases ha2;obtain ⟨-,y1,-,-,-,-,-,-,-,-,-,y11⟩:=g8;clear hy hy0 hbe hz;by_cases hp:y.RX < x.RX
     .have dp:decide (y.RX < x.RX)=true:=decide_eq_true hp
      have HY:bE (dO (fun x:aD=>decide (x.Md=st) && decide (x.on=on)) p.pure.L8 (k+1) k):=by have h5:=Fm.I; rwa [show dF x.toaD y.toaD=true by unfold dF; rw [if_neg (by intro e; have e2:x.RX=y.RX:=e; omega)]; exact decide_eq_true hp,if_pos rfl] at h5
      clear hp Fm;refine aT (fun w'=>w'=W5.drew) ZcE rfl ?_
      iterate 14 (refine agj ?_)
      exact Zcv
     have dp:decide (y.RX < x.RX)=false:=decide_eq_false hp;by_cases hq:x.RX=y.RX
     .have dq:(x.RX == y.RX)=true:=by simp [hq]
      by_cases hr:x.RU < y.RU
      .have ya:decide (x.RU < y.RU)=true:=decide_eq_true hr
       have HY:bE (dO (fun x:aD=>decide (x.Md=st) && decide (x.on=on)) p.pure.L8 (k+1) k):=by have h5:=Fm.I; rwa [show dF x.toaD y.toaD=true by unfold dF; rw [if_pos hq]; exact ya,if_pos rfl] at h5
       clear hp hr Fm hq;refine aT (fun w'=>w'=W5.drew) ZcE rfl ?_
       iterate 35 (refine agj ?_)
       exact PC
      .have ya:decide (x.RU < y.RU)=false:=decide_eq_false hr
       have HY:bE (dO (fun x:aD=>decide (x.Md=st) && decide (x.on=on)) p.pure.L8 (k+1) n):=by have h5:=Fm.I; rwa [show dF x.toaD y.toaD=false by unfold dF; rw [if_pos hq]; exact ya,if_neg Bool.false_ne_true] at h5
       clear hp hr Fm hq;refine aT (fun w'=>w'=W5.drew) ZcE rfl ?_
       iterate 35 (refine agj ?_)
       exact ZaF
     .have dq:(x.RX == y.RX)=false:=by simp [hq]
      have HY:bE (dO (fun x:aD=>decide (x.Md=st) && decide (x.on=on)) p.pure.L8 (k+1) n):=by have h5:=Fm.I; rwa [show dF x.toaD y.toaD=false by unfold dF; rw [if_neg hq]; exact dp,if_neg Bool.false_ne_true] at h5
      clear hp Fm hq;refine aT (fun w'=>w'=W5.drew) ZcE rfl ?_
      iterate 24 (refine agj ?_)
      iterate 9 (refine ty (o_ _) rfl rfl ZcE (fun _ _ _ h=>h) (np ZcE) ?_; simp only [pt,sb,s0,s1])
      iterate 2 (refine agj ?_)
      exact ZaF
    .have HY:bE (dO (fun x:aD=>decide (x.Md=st) && decide (x.on=on)) p.pure.L8 (k+1) z):=HA.I.1.skip HX.I.2 (by simp [ho])
     have e1:(x.Md != st)=false:=by simp [hs]
     have e2:(x.on != on)=true:=by simp [ho]
     clear hs ho;exact Zbp
   .have HY:bE (dO (fun x:aD=>decide (x.Md=st) && decide (x.on=on)) p.pure.L8 (k+1) z):=HA.I.1.skip HX.I.2 (by simp [hs])
    have e1:(x.Md != st)=true:=by simp [hs]
    clear hs;exact Zbp
  .have i1: ¬ (k:Int) < (p.L8.length:Int):=zo
   have HE:bE (dO (fun x:aD=>decide (x.Md=st) && decide (x.on=on)) p.pure.L8 p.L8.length z):=by have h5:=HA.I.1; rwa [show k=p.L8.length by omega] at h5
   go_wp2;go_ret;exact ⟨⟨z,rfl,HE.I⟩,HW.I.2.2⟩
end
section
def MX (b:Bool) (w:w_):k_ J3 48 #[b_ b] w fun e w'=>e=r_ (t_ (Ij (MJ b)))/\w'=w:=by
 rw [Oq]
 go_enter func48,ntmps48
 cases b
 .go_wp2
  go_ret;exact ⟨rfl,rfl⟩
 .go_wp2
  go_ret;exact ⟨rfl,rfl⟩
def Nx (a:Option d_) (l:List ByteArray) (cap:Nat) (w:w_) (hl:l.length<=1048576) (hs: ∀ x∈l,x.size<=1048576) (h:Row w a (bT.flat l)):
  k_ J3 49 #[s_ a l.length cap] w fun e w'=>e=r_ (t_ (MI l))/\w'=w:=by
 have H:bE (Row w a (bT.flat l)/\ ∀ x∈l,x.size<=1048576):=⟨h,hs⟩
 clear h hs
 go_enter func49,ntmps49
 go_wp2_with fail
 go_loop [3,4] (fun t i=> ∃ k:Nat,k<=l.length/\i=i_ j_ k/\t=t_ (MI (l.take k))) (fun _ i=>l.length - (intOf i).toNat)
 case atStart=>exact ⟨0,Ky _,rfl,rfl⟩
 case round=>
  obtain ⟨k,hk,rfl,rfl⟩:=hrel;by_cases hlt:k < l.length
  .have i0:(0:Int)<=(k:Int):=zo
   have i1:(k:Int) < (l.length:Int):=zo
   obtain ⟨x,hx⟩: ∃ x,l[k]? =o_ x:=⟨_,Kz hlt⟩
   have HX:bE (MI (l.take k) ++ ⟨#[59]⟩ ++ x=MI (l.take (k+1))):=by show _=_; rw [MI,MI,OX hx,NS,ByteArray.append_assoc]
   obtain ⟨g,rfl,c0⟩:=zl H.I.1 hx;have hz:(MI (l.take k)).size<=1048577 * k:=by
    have h1:=Nf (f:=NS) (l:=l.take k) (m:=1048577) fun y hy=>by have:=H.I.2 y (RK hy); rw [Ny]; omega
    rw [Lk,Nat.min_eq_left hk] at h1;exact h1
   have hxs:=H.I.2 x (KA hx);have s1: ¬ 9223372036854775807 < (MI (l.take k)).size+1:=zo
   have s2: ¬ 9223372036854775807 < (MI (l.take k)).size+1+x.size:=zo
   clear hx hz hxs;go_wp2
   go_round
   case rel=>exact ⟨k+1,zo,by go_num,congrArg Value.string HX.I⟩
   case measure=>simp [intOf]; omega
  .have i1: ¬ (k:Int) < (l.length:Int):=zo
   have ek:k=l.length:=zo
   subst ek;rw [LQ];go_wp2;go_ret;exact ⟨rfl,rfl⟩
def NQ (l:List dN):ByteArray:=M0 l.length (Cd l) (Cg l) (Ea l) (Ce l)
def NP (a:Option d_) (l:List dN) (cap:Nat) (w:w_) (h0:0 < l.length) (hl:l.length<=1048576) (hs: ∀ o∈l,o.2.2.2.size<=1048576) (h:Row w a (fk.flat l)):
  k_ J3 47 #[s_ a l.length cap] w fun e w'=>e=r_ (t_ (NQ l))/\B_ w.heap.size w w':=by
 obtain ⟨g,rfl,hr⟩:=wa h h0;exact No g _ cap _ _ _ _ w hl (xd hs) hr
def N8 (l:List dN):(NQ l).size<=1040:=by
 unfold NQ M0;by_cases h:nq l.length (Cd l) (Cg l) (Ea l) (Ce l)=true
 .rw [if_pos h]
  have h1:=MU h;have h2:=NX _ h1.2.2;omega
 .rw [if_neg h]
  exact Ky _
end
section
open Go.Maps
def MM (b:Bool): -9999999999<=MJ b/\MJ b<=9999999999:=by cases b <;> decide
def Pj (_w:w_) (x:bD):Prop:=(∀ n∈ [x.id,x.n,x.max],-9999999999<=n/\n<=9999999999)
def OB (_w:w_) (x:aB):Prop:=(∀ n∈ [x.id,MJ x.up],-9999999999<=n/\n<=9999999999)
def OC (_w:w_) (x:az):Prop:=(∀ n∈ [x.id,MJ x.shown],-9999999999<=n/\n<=9999999999)/\x.text.size<=1048576
def N6 (w:w_) (x:au):Prop:=(∀ n∈ [x.id,x.max],-9999999999<=n/\n<=9999999999)/\x.Ma.length<=1048576/\(∀ s∈x.Ma,s.size<=1048576)/\Row w x.ak (bT.flat x.Ma)
def O5 (w:w_) (x:aM):Prop:=(∀ n∈ [x.id,MJ x.I,MJ x.Mf,x.max],-9999999999<=n/\n<=9999999999)/\x.Ma.length<=1048576/\(∀ s∈x.Ma,s.size<=1048576)/\Row w x.ak (bT.flat x.Ma)
def O0 (w:w_) (x:ao):Prop:=(∀ n∈ [x.id,x.RX,x.Md,x.pc,x.left,x.Mg,x.on,x.code,x.RU],-9999999999<=n/\n<=9999999999)/\0 < x.prog.length/\x.dX/\Row w x.aY (fk.flat x.prog)
def Nh {s:ByteArray} (h:bI s=true):s.size=0:=by
 have h1:s.toList= [] :=by simpa [bI] using h
 have h2:s.toList.length=s.size:=by rw [PQ]; simp
 rw [h1] at h2;exact h2.symm
def M5 {s:ByteArray} (h:bw s=true):s.size<=20:=by
 simp only [bw,J7,decide_eq_true_iff] at h;exact h.1
def OJ {k n m:Int} {s:ByteArray} (h:mQ k n m s=true):n<=1000/\s.size<=20:=by
 unfold mQ at h
 split at h
 .simp only [J7,bz] at h
  have:=Nh h.2
  omega
 split at h
 .simp only [J7,bz] at h
  have:=Nh h.2
  omega
 split at h
 .simp only [J7,bz] at h
  have:=M5 h.2
  omega
 split at h
 .simp only [J7,bz] at h
  have:=M5 h.2
  omega
 split at h
 .simp only [J7,decide_eq_true_iff] at h
  have:=Nh h.2
  omega
 .cases h
def NB {l:List dN} (h:jm l=true):0 < l.length/\l.length<=20/\ ∀ o∈l,o.2.1<=1000/\o.2.2.2.size<=20:=by
 have h1:=MU h;refine ⟨h1.1,h1.2.1,fun o ho=> ?_⟩;obtain ⟨i,hi,rfl⟩:=LK.1 ho;have h2:=OJ (h1.2.2 i hi);simpa [Cg,Ce,Kz hi] using h2
def has_in {p:aE} (h:aQ p) {s i:Int} (hb:hasB p s i=true):1<=i/\i<=1000:=by
 unfold hasB at hb
 split at hb
 .obtain ⟨x,hx,rfl⟩:=Lr.1 (of_decide_eq_true hb)
  exact bz.1 (cK h.aj x hx).1
 split at hb
 .obtain ⟨x,hx,rfl⟩:=Lr.1 (of_decide_eq_true hb)
  exact bz.1 (cK h.L9 x hx).1
 split at hb
 .obtain ⟨x,hx,rfl⟩:=Lr.1 (of_decide_eq_true hb)
  exact bz.1 (cK h.ae x hx).1
 split at hb
 .obtain ⟨x,hx,rfl⟩:=Lr.1 (of_decide_eq_true hb)
  exact bz.1 (cK h.ag x hx).1
 .cases hb
def Ns {l:List ByteArray} {m:Int} (h:dJ l m=true) (hm:m<=5):l.length<=1048576/\ ∀ s∈l,s.size<=1048576:=by
 simp only [dJ,J7,decide_eq_true_iff,PZ] at h;exact ⟨zo,fun s hs=>by have:=M5 (h.1 s hs); omega⟩
def O2 {p:aE} (h:aQ p) (w:w_) {x:bD} (hx:x∈p.aj):Pj w x:=by
 have h1:=cK h.aj x hx;simp only [gw,J7,bz] at h1;intro n hn;exact ZaZ
def Oi {p:aE} (h:aQ p) (w:w_) {x:aB} (hx:x∈p.L9):OB w x:=by
 have h1:=bz.1 (cK h.L9 x hx).1;have h2:=MM x.up;intro n hn;exact ZaZ
def N9 {p:aE} (h:aQ p) (w:w_) {x:az} (hx:x∈p.ag):OC w x:=by
 have h1:=cK h.ag x hx;simp only [cU,J7,bz] at h1;have h2:=MM x.shown;have h3:=M5 h1.2.1;refine ⟨fun n hn=> ?_,zo⟩;exact ZaZ
def N3 {p:aE} (h:aQ p) {w:w_} {x:au} (hx:x.toci∈p.ae) (hr:Row w x.ak (bT.flat x.Ma)):N6 w x:=by
 have h1:=cK h.ae x.toci hx;simp only [ct,J7,bz] at h1;have h3:=Ns h1.2.2 zo;refine ⟨fun n hn=> ?_,h3.1,h3.2,hr⟩;exact ZaZ
def OA {p:aE} (h:aQ p) {w:w_} {x:aM} (hx:x.todS∈p.ai) (hr:Row w x.ak (bT.flat x.Ma)):O5 w x:=by
 have h1:=cK h.ai x.todS hx;simp only [dj,J7,bz] at h1;have h3:=Ns h1.2.2 zo;have h4:=MM x.I;have h5:=MM x.Mf;refine ⟨fun n hn=> ?_,h3.1,h3.2,hr⟩;exact ZaZ
def Oj {x:aD} (h:bO x=true) (hp:jm x.prog=true):0<=x.Md/\x.Md<=7/\0<=x.pc/\x.pc<=20/\0<=x.left/\x.left<=1000/\ -1<=x.Mg/\x.Mg<=2000000000/\(x.Md < 3->x.on=0)/\(x.Md=0->x.RU=0):=by
 have hl:=NB hp;unfold bO at h
 split at h
 .simp only [J7,decide_eq_true_iff] at h
  omega
 split at h
 .simp only [J7,decide_eq_true_iff,dU,bz,jJ] at h
  have h5:0<=x.left/\x.left<=1000:=by
   have h6:=h.1.1.1.2
   split at h6
   .simp only [J7,decide_eq_true_iff] at h6
    have h7:(opAt x).2.1<=1000:=by
     have h8:x.pc.toNat < x.prog.length:=zo
     unfold opAt;rw [Kz h8];exact (hl.2.2 _ (PJ h8)).1
    omega
   .have:=of_decide_eq_true h6
    omega
  omega
 split at h
 .simp only [J7,decide_eq_true_iff,dU,bz] at h
  omega
 split at h
 .simp only [J7,Kb,decide_eq_true_iff,dU,bz,lh] at h
  omega
 split at h
 .simp only [J7,Kb,decide_eq_true_iff,dU,bz,lh] at h
  omega
 .cases h
def Oy {p:aE} (h:aQ p) {w:w_} {x:ao} (hx:x.toaD∈p.L8) (hr:Row w x.aY (fk.flat x.prog)):O0 w x:=by
 have h1:=cK h.L8 x.toaD hx;simp only [cH,J7,bz,fF,dG,Kb,decide_eq_true_iff] at h1;have hn:=bz.1 h.next;have hp:=NB h1.2.1.1.1.1.1.1.2;have hs:=Oj h1.2.1.1.2 h1.2.1.1.1.1.1.1.2;have h3:=M5 h1.2.1.1.1.1.1.2;have h4:=M5 h1.2.1.1.1.1.2;have ho: -9999999999<=x.on/\x.on<=9999999999:=by
  have h5:=h1.2.2
  split at h5
  .have:=has_in h h5
   omega
  .have:=hs.2.2.2.2.2.2.2.2.1 zo
   omega
 refine ⟨fun n hn=> ?_,hp.1,⟨zo,fun o ho=>by have:=(hp.2.2 o ho).2; omega,zo,zo⟩,hr⟩;exact ZaZ
def Pl {P:Program} {ev:Operand->v_} {oi:Oper} {T abH:T_} {x y:Operand} {u v:ByteArray} (ho:oi.op= .binOp .add T x y abH) (hx:ev x=t_ u) (hy:ev y=t_ v) (hz:u.size+v.size<=9000000000000000000) (w:w_):(execOp ev oi).run P w= .ok (.value (t_ (u ++ v))) w:=by
 have hs: ¬ 9223372036854775807 < u.size+v.size:=zo
 simp only [execOp,ho]
 go_simp
section
variable {P:Program} {md:Region.Mode} {ops:Array Oper} {Q:Exit->Act->w_->Prop} {S:w_->Prop} {oi:Oper} {fuel:Nat} {RV:Array Bool} {a:Act} {d:Tmp} {T abH:T_} {x y:Operand} {u v:ByteArray} {a':ByteArray->Act}
def ad (n:Nat) (hu:u.size<=2000000000000 * n) (hv:v.size<=2000000000000) (h: ∀ r:ByteArray,bE (r=u ++ v)->r.size<=2000000000000 * (n+1)->gR P md ops Q S fuel (RV.setIfInBounds (ops.size - (fuel+1)) true) (a' r))
  (hn:n<=1000:=by omega) (hi:ops[ops.size - (fuel+1)]? =o_ oi:=by rfl) (hd:oi.dst=o_ d:=by rfl) (ho:oi.op= .binOp .add T x y abH:=by rfl) (hx:a.eval x=t_ u:=by rfl) (hy:a.eval y=t_ v:=by rfl) (hc:Jj md ops RV (ops.size - (fuel+1)) oi (o_ d)=true:=by kernel_rfl)
  (hQ: ∀ c a w,Q (.panic c) (a.put (o_ d) (t_ (u ++ v))) w->Q (.panic c) a w:=by exact fun _ _ _ h=>h) (hw:Region.wanted oi (yielded ops a.tmps)=true:=by kernel_rfl) (ha: ∀ r,a.put (o_ d) (t_ r)=a' r:=by intro r; simp only [pt,sb,s0,s1]; rfl):gR P md ops Q S (fuel+1) RV a:=
 yl (fun w _=>Pl ho hx hy zo w) (by rw [ha]; exact h _ rfl (by rw [QH]; omega)) hi hd hc hQ hw
def y7 (n:Nat) (hu:u.size<=2000000000000 * n) (h: ∀ r:ByteArray,bE (r=u ++ v)->r.size<=2000000000000 * (n+1)->gR P md ops Q S fuel (RV.setIfInBounds (ops.size - (fuel+1)) true) (a' r))
  (hn:n<=1000:=by omega) (hi:ops[ops.size - (fuel+1)]? =o_ oi:=by rfl) (hd:oi.dst=o_ d:=by rfl) (ho:oi.op= .binOp .add T x (.const (t_ v)) abH:=by rfl) (hx:a.eval x=t_ u:=by rfl) (hv:v.size<=2000000000000:=by decide) (hc:Jj md ops RV (ops.size - (fuel+1)) oi (o_ d)=true:=by kernel_rfl)
  (hQ: ∀ c a w,Q (.panic c) (a.put (o_ d) (t_ (u ++ v))) w->Q (.panic c) a w:=by exact fun _ _ _ h=>h) (hw:Region.wanted oi (yielded ops a.tmps)=true:=by kernel_rfl) (ha: ∀ r,a.put (o_ d) (t_ r)=a' r:=by intro r; simp only [pt,sb,s0,s1]; rfl):gR P md ops Q S (fuel+1) RV a:=
 ad n hu hv h hn hi hd ho hx rfl hc hQ hw ha
def b9 (v:ByteArray) (f:FuncId) (KS:Array v_) (hf: ∀ w,S w->k_ P f KS w (fun e w'=>e=r_ (t_ v)/\S w')) (h:gR P md ops Q S fuel (RV.setIfInBounds (ops.size - (fuel+1)) true) (a' v))
  (hi:ops[ops.size - (fuel+1)]? =o_ oi:=by rfl) (hd:oi.dst=o_ d:=by rfl) (hy: ∀ w,S w->(execOp a.eval oi).run P w= .ok (.enter f KS) w:=by intro w0 hS0; go_simp) (hc:Jj md ops RV (ops.size - (fuel+1)) oi (o_ d)=true:=by kernel_rfl)
  (hQ: ∀ c a w,Q (.panic c) (a.put (o_ d) (t_ v)) w->Q (.panic c) a w:=by exact fun _ _ _ h=>h) (hw:Region.wanted oi (yielded ops a.tmps)=true:=by kernel_rfl) (ha: ∀ r,a.put (o_ d) (t_ r)=a' r:=by intro r; simp only [pt,sb,s0,s1]; rfl):gR P md ops Q S (fuel+1) RV a:=
 cl (t_ v) f KS hy hf Zde hi hd hc hQ hw
end
end
end Go.Proofs.YtfncpmaefninjaaGreatDoor
