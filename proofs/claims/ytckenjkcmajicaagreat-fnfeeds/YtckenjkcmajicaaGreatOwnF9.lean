/- What the proof leans on, part 9. -/
import Derived.Test.YtckenjkcmajicaaGreatOwnF4
set_option linter.all false
set_option maxRecDepth 100000
set_option maxHeartbeats 8000000
open Go.Proofs.Tryz
open Go renaming World->w_,Calls->k_,Addr->d_
open Go.Ending renaming returned->r_
open Go.IntKind renaming i64->j_
open Go.Obj renaming cells->c_
open Go.RowKit renaming Below->B_,Hid->bN
open Go.Value renaming int->i_,slice->s_,bool->b_,string->t_,agg->a_
open Option renaming some->o_,none->n_
open Go.Proofs.Tryz renaming prog->J3

namespace Go.Proofs.YtckenjkcmajicaaGreat
section
open Go.RowKit
def anx (n lo hi:Int): ∃ b,bN (∀ w,k_ J3 41 #[i_ j_ n,i_ j_ lo,i_ j_ hi] w fun e w'=>e=r_ (b_ b)/\w'=w)/\bN (cv n lo hi=b):=⟨_,dx n lo hi,rfl⟩
def bv (p:af):Bool:=aw (fun x:bD=>x.id) gw 0 p.aj && aw (fun x:aB=>x.id) ey 0 p.L9 && aw (fun x:az=>x.id) cU 0 p.ag && aw (fun x:au=>x.id) (fun x=>ct x.toci) 0 p.ae && aw (fun x:aM=>x.id) (fun x=>dj x.todS) 0 p.ai && decide (p.aj.length<=5) && decide (p.L9.length<=5) && decide (p.ag.length<=5) && decide (p.ae.length<=5) && decide (p.ai.length<=5)
def gQ {p:af} (h:aw (fun x:bD=>x.id) gw 0 p.aj=false):bv p=false:=by simp [bv,h]
def nk {p:af} (h:aw (fun x:aB=>x.id) ey 0 p.L9=false):bv p=false:=by simp [bv,h]
def fJ {p:af} (h:aw (fun x:az=>x.id) cU 0 p.ag=false):bv p=false:=by simp [bv,h]
def fv {p:af} (h:aw (fun x:au=>x.id) (fun x=>ct x.toci) 0 p.ae=false):bv p=false:=by simp [bv,h]
def eg {p:af} (h:aw (fun x:aM=>x.id) (fun x=>dj x.todS) 0 p.ai=false):bv p=false:=by simp [bv,h]
def wP {p:af} (h:decide ((p.aj.length:Int)<=5)=false):bv p=false:=by
 have h1:decide (p.aj.length<=5)=false:=decide_eq_false Zcl;simp [bv,h1]
def wS {p:af} (h:decide ((p.L9.length:Int)<=5)=false):bv p=false:=by
 have h1:decide (p.L9.length<=5)=false:=decide_eq_false Zcl;simp [bv,h1]
def wL {p:af} (h:decide ((p.ag.length:Int)<=5)=false):bv p=false:=by
 have h1:decide (p.ag.length<=5)=false:=decide_eq_false Zcl;simp [bv,h1]
def wJ {p:af} (h:decide ((p.ae.length:Int)<=5)=false):bv p=false:=by
 have h1:decide (p.ae.length<=5)=false:=decide_eq_false Zcl;simp [bv,h1]
def wv {p:af} (h:decide ((p.ai.length:Int)<=5)=false):bv p=false:=by
 have h1:decide (p.ai.length<=5)=false:=decide_eq_false Zcl;simp [bv,h1]
def yC {p:af} (t0:aw (fun x:bD=>x.id) gw 0 p.aj=true) (t1:aw (fun x:aB=>x.id) ey 0 p.L9=true) (t2:aw (fun x:az=>x.id) cU 0 p.ag=true) (t3:aw (fun x:au=>x.id) (fun x=>ct x.toci) 0 p.ae=true) (t4:aw (fun x:aM=>x.id) (fun x=>dj x.todS) 0 p.ai=true) (d0:decide ((p.aj.length:Int)<=5)=true) (d1:decide ((p.L9.length:Int)<=5)=true) (d2:decide ((p.ag.length:Int)<=5)=true) (d3:decide ((p.ae.length:Int)<=5)=true) (d4:decide ((p.ai.length:Int)<=5)=true):bv p=true:=by
 have e0:decide (p.aj.length<=5)=true:=decide_eq_true (by have:=of_decide_eq_true d0; omega);have e1:decide (p.L9.length<=5)=true:=decide_eq_true (by have:=of_decide_eq_true d1; omega);have e2:decide (p.ag.length<=5)=true:=decide_eq_true (by have:=of_decide_eq_true d2; omega);have e3:decide (p.ae.length<=5)=true:=decide_eq_true (by have:=of_decide_eq_true d3; omega);have e4:decide (p.ai.length<=5)=true:=decide_eq_true (by have:=of_decide_eq_true d4; omega);simp only [bv,t0,t1,t2,t3,t4,e0,e1,e2,e3,e4,Bool.and_self]
def rm {s:ByteArray} {b:Bool} (h:bw s=b) (hs:s.size<=1048576) (w:w_):k_ J3 113 #[t_ s] w fun e w'=>e=r_ (b_ b)/\w'=w:=by
 refine (jC s w hs).mono ?_;rintro e w' ⟨rfl,rfl⟩;exact ⟨al h,rfl⟩
def iz {W:w_} {o:Obj} {a:Option d_} {l:List ByteArray} {cap:Nat} {Me:Int} {b:Bool} (h:dJ l Me=b) (hf:fT W a l) (n:Nat):
  k_ J3 114 #[s_ a l.length cap,i_ j_ Me] ((W.alloc o).drewN n) fun e w'=>e=r_ (b_ b)/\w'=(W.alloc o).drewN n:=by
 refine (Aj a l cap Me ((W.alloc o).drewN n) hf.len hf.short ?_).mono ?_
 .exact hf.row.below (bd ((Kp _ W).alloc (Ki _) o) n)
 .rintro e w' ⟨rfl,rfl⟩
  exact ⟨al h,rfl⟩
def lx {α:Type} {num:α->Int} {l:List α} :bW num 0 (l.take 0)=0:=by simp [bW]
structure af.Fit (p:af):Prop where
 short:p.dX
 ag: ∀ b∈p.ag,b.text.size<=1048576
 ae: ∀ b∈p.ae,b.Ma.length<=1048576/\ ∀ s∈b.Ma,s.size<=1048576
 ai: ∀ b∈p.ai,b.Ma.length<=1048576/\ ∀ s∈b.Ma,s.size<=1048576
def anW {s:ByteArray} (hs:s.size<=1048576): ∃ b,bN (∀ w,k_ J3 113 #[t_ s] w fun e w'=>e=r_ (b_ b)/\w'=w)/\bN (bw s=b):=⟨_,rm rfl hs,rfl⟩
def anI {W:w_} {a:Option d_} {l:List ByteArray} (cap:Nat) (Me:Int) (hf:fT W a l): ∃ b,bN (∀ o n,k_ J3 114 #[s_ a l.length cap,i_ j_ Me] ((W.alloc o).drewN n) fun e w'=>e=r_ (b_ b)/\w'=(W.alloc o).drewN n)/\bN (dJ l Me=b):=⟨_,fun _ n=>iz rfl hf n,rfl⟩
def alB {α:Type} {num:α->Int} {ok:α->Bool} {l:List α} {k k1:Nat} {x:α} {b c K:Bool} (e:k1=k+1) (hA:aw num ok 0 (l.take k)=true) (hx:l[k]? =o_ x) (hin:cv (num x) 1 1000=b) (hc:b=true->decide (bW num 0 (l.take k) < num x)=c) (hok:ok x=K):
  bN (((b && (c && K))=true->aw num ok 0 (l.take k1)=true)/\((b && (c && K))=false->aw num ok 0 l=false)):=by
 subst e hok;constructor
 .intro h
  simp only [J7] at h;obtain ⟨rfl,rfl,h3⟩:=h;exact ed hA hx hin (of_decide_eq_true (hc rfl)) h3
 .intro h
  refine bS hx fun hh=> ?_
  rw [hin] at hh;rw [hh.1,hh.2.2,<- hc hh.1,decide_eq_true hh.2.1] at h;cases h
def ch2 (a b:Bool):a=false\/(a=true/\b=false)\/(a=true/\b=true):=by cases a <;> cases b <;> simp
def zI (p:af) (w:w_) (hf:p.Fit) (h:af.At w p):
  k_ J3 71 #[a_ p.cells] w fun e w'=>e=r_ (b_ (bv p))/\B_ w.heap.size w w':=by
 have HB:bN (av (w.alloc (c_ p.cells 46)) w.heap.size p/\af.At (w.alloc (c_ p.cells 46)) p/\B_ w.heap.size w (w.alloc (c_ p.cells 46))):=⟨Kj _ _,h.below ((Kp _ _).alloc (Ki _) _),(Kp _ _).alloc (Ki _) _⟩
 have fl:bN p.Fit:=hf;clear h hf;unfold af.cells at *
 go_enter func71,ntmps71
 go_wp2_with fail;generalize w.alloc (c_ p.row 46)=W at *
 go_loopw [3] (fun i wr=> ∃ k:Nat,k<=p.aj.length/\i=i_ j_ k/\bN (aw (fun x:bD=>x.id) gw 0 (p.aj.take k)=true/\B_ W.heap.size W wr)) (fun i _=>p.aj.length - (intOf i).toNat)
 case atStart=>exact ⟨0,Ky _,rfl,⟨rfl,Kp _ _⟩⟩
 case round=>
  obtain ⟨k,hk,rfl,HA⟩:=hrel;have hsz:w.heap.size < wr.heap.size:=Kn (J2.1 HB.I.1).1 HA.I.2.size;have cy:bN (av wr w.heap.size p/\af.At wr p/\B_ w.heap.size w wr):=⟨HB.I.1.below HA.I.2,HB.I.2.1.below HA.I.2,HB.I.2.2.trans (HA.I.2.mono HB.I.2.2.size)⟩
  obtain ⟨m0,m1,m2,m3,m4,m5,m6,m7⟩:=cy.I.1.cells;have hll:=fl.I.short.aj;by_cases hlt:k < p.aj.length
  .as_aux_lemma=>
    have i0:(0:Int)<=(k:Int):=zw
    have i1:(k:Int) < (p.aj.length:Int):=zw
    obtain ⟨x,hx⟩: ∃ x,p.aj[k]? =o_ x:=⟨_,Kz hlt⟩
    have hmem:=KA hx;obtain ⟨gs,ha,hat⟩:=lQ cy.I.2.1.2.1 hx;have hgs:gs < wr.heap.size:=Le hat.1;have HP:bN (∀ y,p.aj[k - 1]? =o_ y->wr.cell? ⟨gs,(k - 1) * 3,n_⟩=o_ (i_ j_ y.id)):=fun y hy=>by
     obtain ⟨g2,ha2,g8⟩:=lQ cy.I.2.1.2.1 hy;exact Za6
    obtain ⟨c0,c1,c2⟩:=hat;rw [ha] at m3;obtain ⟨b,kI,lN⟩:=anx x.id 1 1000;obtain ⟨b5,lE,H5⟩:=anx x.max 1 1000;obtain ⟨b6,HC6,H6⟩:=anx x.n 0 x.max;obtain ⟨k1,hk1⟩: ∃ k1,bN (k1=k+1):=⟨_,rfl⟩
    have HV:=fun c hc=>alB (c:=c) (K:=(b5 && b6)) hk1.I HA.I.1 hx lN.I hc (by simp [gw,H5.I,H6.I])
    have HX:=aA HV;clear hx ha hmem HB HV;by_cases hk0:k=0
    .have dk:decide (0 < k)=false:=decide_eq_false zw
     have HV:=HX.I true (fun e=>decide_eq_true Zcd);clear hk0 HX;rcases ch2 b b5 with rfl | ⟨rfl,rfl⟩ | ⟨rfl,rfl⟩
     rotate_left 2;cases b6
     all_goals
      go_wp2_with fail
      go_quiet ((first
       | (go_at_call_of 41 (x.id); exact L1 (kI.I _))
       | (go_at_call_of 41 (x.n); exact L1 (HC6.I _))
       | (go_at_call_of 41 (x.max); exact L1 (lE.I _))))
      go_wp2
      first
       | (go_ret; exact ⟨al (gQ (HV.I.2 rfl)).symm,bd (cy.I.2.2.alloc cy.I.2.2.size _) _⟩)
       | (go_roundw; (case rel=>exact ⟨k1,by rw [hk1.I]; omega,by rw [hk1.I]; go_num,⟨HV.I.1 rfl,bd (HA.I.2.alloc HA.I.2.size _) _⟩⟩); (case measure=>simp [intOf]; omega))
    obtain ⟨j,rfl⟩: ∃ j,k=j+1:=⟨k - 1,zw⟩
    obtain ⟨y,hy⟩: ∃ y,p.aj[j]? =o_ y:=⟨_,Kz zw⟩
    have cp:wr.cell? ⟨gs,j * 3,n_⟩=o_ (i_ j_ y.id):=HP.I y hy;have j0:(0:Int)<=(j:Int):=zw
    have j1:(j:Int) < (p.aj.length:Int):=zw
    have wk:IntKind.i64.wrap (j:Int)=(j:Int):=by rw [K8]; omega
    obtain ⟨c,hc⟩: ∃ c,c=decide (y.id < x.id):=⟨_,rfl⟩
    have HV:=HX.I c (fun _=>by rw [hc]; show decide (_ < x.id)=_; rw [eG hy 0]);have dp:decide (x.id<=y.id)= !c:=by rw [hc,<- decide_not]; exact decide_eq_decide.2 zw
    clear hy hk0 HX hc;cases c
    all_goals
     try simp only [Bool.not_false,Bool.not_true] at dp
     rcases ch2 b b5 with rfl | ⟨rfl,rfl⟩ | ⟨rfl,rfl⟩
     rotate_left 2;cases b6
     all_goals
      go_wp2_with fail
      go_quiet ((first
       | (go_at_call_of 41 (x.id); exact L1 (kI.I _))
       | (go_at_call_of 41 (x.n); exact L1 (HC6.I _))
       | (go_at_call_of 41 (x.max); exact L1 (lE.I _))))
      go_wp2
      first
       | (go_ret; exact ⟨al (gQ (HV.I.2 rfl)).symm,bd (cy.I.2.2.alloc cy.I.2.2.size _) _⟩)
       | (go_roundw; (case rel=>exact ⟨k1,by rw [hk1.I]; omega,by rw [hk1.I]; go_num,⟨HV.I.1 rfl,bd (HA.I.2.alloc HA.I.2.size _) _⟩⟩); (case measure=>simp [intOf]; omega))
  .have i1: ¬ (k:Int) < (p.aj.length:Int):=zw
   have Hz:bN (aw (fun x:bD=>x.id) gw 0 p.aj=true):=by have:=HA.I.1; rwa [KF zw] at this
   clear HA HB hlt hk hsz hll;go_wp2_with fail;clear i1 m0 m1 m2 m3 m4 m5 m6 m7
   rename w_=>W0
   have HB:bN (av W0 w.heap.size p/\af.At W0 p/\B_ w.heap.size w W0):=cy.I;clear cy
   go_loopw [5] (fun i wr=> ∃ k:Nat,k<=p.L9.length/\i=i_ j_ k/\bN (aw (fun x:aB=>x.id) ey 0 (p.L9.take k)=true/\B_ W0.heap.size W0 wr)) (fun i _=>p.L9.length - (intOf i).toNat)
   case atStart=>exact ⟨0,Ky _,rfl,⟨rfl,Kp _ _⟩⟩
   case round=>
    obtain ⟨k,hk,rfl,HA⟩:=hrel;have hsz:w.heap.size < wr.heap.size:=Kn (J2.1 HB.I.1).1 HA.I.2.size;have cy:bN (av wr w.heap.size p/\af.At wr p/\B_ w.heap.size w wr):=⟨HB.I.1.below HA.I.2,HB.I.2.1.below HA.I.2,HB.I.2.2.trans (HA.I.2.mono HB.I.2.2.size)⟩
    obtain ⟨m0,m1,m2,m3,m4,m5,m6,m7⟩:=cy.I.1.cells;have hll:=fl.I.short.L9;by_cases hlt:k < p.L9.length
    .as_aux_lemma=>
      have i0:(0:Int)<=(k:Int):=zw
      have i1:(k:Int) < (p.L9.length:Int):=zw
      obtain ⟨x,hx⟩: ∃ x,p.L9[k]? =o_ x:=⟨_,Kz hlt⟩
      have hmem:=KA hx;obtain ⟨gs,ha,hat⟩:=j4 cy.I.2.1.2.2.1 hx;have hgs:gs < wr.heap.size:=Le hat.1;have HP:bN (∀ y,p.L9[k - 1]? =o_ y->wr.cell? ⟨gs,(k - 1) * 2,n_⟩=o_ (i_ j_ y.id)):=fun y hy=>by
       obtain ⟨g2,ha2,g8⟩:=j4 cy.I.2.1.2.2.1 hy;exact Za6
      obtain ⟨c0,c1⟩:=hat;rw [ha] at m4;obtain ⟨b,kI,lN⟩:=anx x.id 1 1000;obtain ⟨k1,hk1⟩: ∃ k1,bN (k1=k+1):=⟨_,rfl⟩
      have HV:=fun c hc=>alB (c:=c) (K:=true) hk1.I HA.I.1 hx lN.I hc (rfl)
      have HX:=aA HV;clear hx ha hmem HB HV;by_cases hk0:k=0
      .have dk:decide (0 < k)=false:=decide_eq_false zw
       have HV:=HX.I true (fun e=>decide_eq_true Zcd);clear hk0 HX;cases b
       all_goals
        go_wp2_with fail
        go_quiet ((first
         | (go_at_call_of 41 (x.id); exact L1 (kI.I _))))
        go_wp2
        first
         | (go_ret; exact ⟨al (nk (HV.I.2 rfl)).symm,bd cy.I.2.2 _⟩)
         | (go_roundw; (case rel=>exact ⟨k1,by rw [hk1.I]; omega,by rw [hk1.I]; go_num,⟨HV.I.1 rfl,bd HA.I.2 _⟩⟩); (case measure=>simp [intOf]; omega))
      obtain ⟨j,rfl⟩: ∃ j,k=j+1:=⟨k - 1,zw⟩
      obtain ⟨y,hy⟩: ∃ y,p.L9[j]? =o_ y:=⟨_,Kz zw⟩
      have cp:wr.cell? ⟨gs,j * 2,n_⟩=o_ (i_ j_ y.id):=HP.I y hy;have j0:(0:Int)<=(j:Int):=zw
      have j1:(j:Int) < (p.L9.length:Int):=zw
      have wk:IntKind.i64.wrap (j:Int)=(j:Int):=by rw [K8]; omega
      obtain ⟨c,hc⟩: ∃ c,c=decide (y.id < x.id):=⟨_,rfl⟩
      have HV:=HX.I c (fun _=>by rw [hc]; show decide (_ < x.id)=_; rw [eG hy 0]);have dp:decide (x.id<=y.id)= !c:=by rw [hc,<- decide_not]; exact decide_eq_decide.2 zw
      clear hy hk0 HX hc;cases c
      all_goals
       try simp only [Bool.not_false,Bool.not_true] at dp
       cases b
       all_goals
        go_wp2_with fail
        go_quiet ((first
         | (go_at_call_of 41 (x.id); exact L1 (kI.I _))))
        go_wp2
        first
         | (go_ret; exact ⟨al (nk (HV.I.2 rfl)).symm,bd cy.I.2.2 _⟩)
         | (go_roundw; (case rel=>exact ⟨k1,by rw [hk1.I]; omega,by rw [hk1.I]; go_num,⟨HV.I.1 rfl,bd HA.I.2 _⟩⟩); (case measure=>simp [intOf]; omega))
    .have i1: ¬ (k:Int) < (p.L9.length:Int):=zw
     have wm:bN (aw (fun x:aB=>x.id) ey 0 p.L9=true):=by have:=HA.I.1; rwa [KF zw] at this
     clear HA HB hlt hk hsz hll;go_wp2_with fail;clear i1 m0 m1 m2 m3 m4 m5 m6 m7
     rename w_=>W1
     have HB:bN (av W1 w.heap.size p/\af.At W1 p/\B_ w.heap.size w W1):=cy.I;clear cy
     go_loopw [6] (fun i wr=> ∃ k:Nat,k<=p.ag.length/\i=i_ j_ k/\bN (aw (fun x:az=>x.id) cU 0 (p.ag.take k)=true/\B_ W1.heap.size W1 wr)) (fun i _=>p.ag.length - (intOf i).toNat)
     case atStart=>exact ⟨0,Ky _,rfl,⟨rfl,Kp _ _⟩⟩
     case round=>
      obtain ⟨k,hk,rfl,HA⟩:=hrel;have hsz:w.heap.size < wr.heap.size:=Kn (J2.1 HB.I.1).1 HA.I.2.size;have cy:bN (av wr w.heap.size p/\af.At wr p/\B_ w.heap.size w wr):=⟨HB.I.1.below HA.I.2,HB.I.2.1.below HA.I.2,HB.I.2.2.trans (HA.I.2.mono HB.I.2.2.size)⟩
      obtain ⟨m0,m1,m2,m3,m4,m5,m6,m7⟩:=cy.I.1.cells;have hll:=fl.I.short.ag;by_cases hlt:k < p.ag.length
      .as_aux_lemma=>
        have i0:(0:Int)<=(k:Int):=zw
        have i1:(k:Int) < (p.ag.length:Int):=zw
        obtain ⟨x,hx⟩: ∃ x,p.ag[k]? =o_ x:=⟨_,Kz hlt⟩
        have hmem:=KA hx;obtain ⟨gs,ha,hat⟩:=jr cy.I.2.1.2.2.2.1 hx;have hgs:gs < wr.heap.size:=Le hat.1;have HP:bN (∀ y,p.ag[k - 1]? =o_ y->wr.cell? ⟨gs,(k - 1) * 3,n_⟩=o_ (i_ j_ y.id)):=fun y hy=>by
         obtain ⟨g2,ha2,g8⟩:=jr cy.I.2.1.2.2.2.1 hy;exact Za6
        obtain ⟨c0,c1,c2⟩:=hat;rw [ha] at m5;obtain ⟨b,kI,lN⟩:=anx x.id 1 1000;obtain ⟨b5,lE,H5⟩:=anW (fl.I.ag x hmem);obtain ⟨s,hs⟩: ∃ s,x.shown=s:=⟨_,rfl⟩
        rw [hs] at c1;have H6:=aA hs;clear hs;obtain ⟨t,ht,HT⟩: ∃ t,x.text.toList.isEmpty=t/\bN (bI x.text=t):=⟨_,rfl,rfl⟩
        obtain ⟨k1,hk1⟩: ∃ k1,bN (k1=k+1):=⟨_,rfl⟩
        have HV:=fun c hc=>alB (c:=c) (K:=(b5 && (s || t))) hk1.I HA.I.1 hx lN.I hc (by simp [cU,H5.I,H6.I,HT.I])
        have HX:=aA HV;clear hx ha hmem HB HV;by_cases hk0:k=0
        .have dk:decide (0 < k)=false:=decide_eq_false zw
         have HV:=HX.I true (fun e=>decide_eq_true Zcd);clear hk0 HX;rcases ch2 b b5 with rfl | ⟨rfl,rfl⟩ | ⟨rfl,rfl⟩
         rotate_left 2;cases s;cases t
         all_goals
          go_wp2_with fail
          go_quiet ((first
           | (go_at_call_of 41 (x.id); exact L1 (kI.I _))
           | (go_at_call_of 113 (x.text); exact L1 (lE.I _))))
          go_wp2
          first
           | (go_ret; exact ⟨al (fJ (HV.I.2 rfl)).symm,bd (cy.I.2.2.alloc cy.I.2.2.size _) _⟩)
           | (go_roundw; (case rel=>exact ⟨k1,by rw [hk1.I]; omega,by rw [hk1.I]; go_num,⟨HV.I.1 rfl,bd (HA.I.2.alloc HA.I.2.size _) _⟩⟩); (case measure=>simp [intOf]; omega))
        obtain ⟨j,rfl⟩: ∃ j,k=j+1:=⟨k - 1,zw⟩
        obtain ⟨y,hy⟩: ∃ y,p.ag[j]? =o_ y:=⟨_,Kz zw⟩
        have cp:wr.cell? ⟨gs,j * 3,n_⟩=o_ (i_ j_ y.id):=HP.I y hy;have j0:(0:Int)<=(j:Int):=zw
        have j1:(j:Int) < (p.ag.length:Int):=zw
        have wk:IntKind.i64.wrap (j:Int)=(j:Int):=by rw [K8]; omega
        obtain ⟨c,hc⟩: ∃ c,c=decide (y.id < x.id):=⟨_,rfl⟩
        have HV:=HX.I c (fun _=>by rw [hc]; show decide (_ < x.id)=_; rw [eG hy 0]);have dp:decide (x.id<=y.id)= !c:=by rw [hc,<- decide_not]; exact decide_eq_decide.2 zw
        clear hy hk0 HX hc;cases c
        all_goals
         try simp only [Bool.not_false,Bool.not_true] at dp
         rcases ch2 b b5 with rfl | ⟨rfl,rfl⟩ | ⟨rfl,rfl⟩
         rotate_left 2;cases s;cases t
         all_goals
          go_wp2_with fail
          go_quiet ((first
           | (go_at_call_of 41 (x.id); exact L1 (kI.I _))
           | (go_at_call_of 113 (x.text); exact L1 (lE.I _))))
          go_wp2
          first
           | (go_ret; exact ⟨al (fJ (HV.I.2 rfl)).symm,bd (cy.I.2.2.alloc cy.I.2.2.size _) _⟩)
           | (go_roundw; (case rel=>exact ⟨k1,by rw [hk1.I]; omega,by rw [hk1.I]; go_num,⟨HV.I.1 rfl,bd (HA.I.2.alloc HA.I.2.size _) _⟩⟩); (case measure=>simp [intOf]; omega))
      .have i1: ¬ (k:Int) < (p.ag.length:Int):=zw
       have xD:bN (aw (fun x:az=>x.id) cU 0 p.ag=true):=by have:=HA.I.1; rwa [KF zw] at this
       clear HA HB hlt hk hsz hll;go_wp2_with fail;clear i1 m0 m1 m2 m3 m4 m5 m6 m7
       rename w_=>W2
       have HB:bN (av W2 w.heap.size p/\af.At W2 p/\B_ w.heap.size w W2):=cy.I;clear cy
       go_loopw [8] (fun i wr=> ∃ k:Nat,k<=p.ae.length/\i=i_ j_ k/\bN (aw (fun x:au=>x.id) (fun x:au=>ct x.toci) 0 (p.ae.take k)=true/\B_ W2.heap.size W2 wr)) (fun i _=>p.ae.length - (intOf i).toNat)
       case atStart=>exact ⟨0,Ky _,rfl,⟨rfl,Kp _ _⟩⟩
       case round=>
        obtain ⟨k,hk,rfl,HA⟩:=hrel;have hsz:w.heap.size < wr.heap.size:=Kn (J2.1 HB.I.1).1 HA.I.2.size;have cy:bN (av wr w.heap.size p/\af.At wr p/\B_ w.heap.size w wr):=⟨HB.I.1.below HA.I.2,HB.I.2.1.below HA.I.2,HB.I.2.2.trans (HA.I.2.mono HB.I.2.2.size)⟩
        obtain ⟨m0,m1,m2,m3,m4,m5,m6,m7⟩:=cy.I.1.cells;have hll:=fl.I.short.ae;by_cases hlt:k < p.ae.length
        .as_aux_lemma=>
          have i0:(0:Int)<=(k:Int):=zw
          have i1:(k:Int) < (p.ae.length:Int):=zw
          obtain ⟨x,hx⟩: ∃ x,p.ae[k]? =o_ x:=⟨_,Kz hlt⟩
          have hmem:=KA hx;obtain ⟨gs,ha,hat⟩:=iA cy.I.2.1.2.2.2.2.1 hx;have hgs:gs < wr.heap.size:=Le hat.1;have HP:bN (∀ y,p.ae[k - 1]? =o_ y->wr.cell? ⟨gs,(k - 1) * 3,n_⟩=o_ (i_ j_ y.id)):=fun y hy=>by
           obtain ⟨g2,ha2,g8⟩:=iA cy.I.2.1.2.2.2.2.1 hy;exact Za6
          obtain ⟨c0,c1,c2⟩:=hat;rw [ha] at m6;obtain ⟨b,kI,lN⟩:=anx x.id 1 1000;obtain ⟨b5,lE,H5⟩:=anx x.max 1 5;obtain ⟨t,uE,HT⟩:=anI x.aq x.max (⟨(fl.I.ae x hmem).1,(fl.I.ae x hmem).2,lj cy.I.2.1.2.2.2.2.1 hx⟩:fT wr x.ak x.Ma);obtain ⟨k1,hk1⟩: ∃ k1,bN (k1=k+1):=⟨_,rfl⟩
          have HV:=fun c hc=>alB (c:=c) (K:=(b5 && t)) hk1.I HA.I.1 hx lN.I hc (by simp [ct,H5.I,HT.I])
          have HX:=aA HV;clear hx ha hmem HB HV;by_cases hk0:k=0
          .have dk:decide (0 < k)=false:=decide_eq_false zw
           have HV:=HX.I true (fun e=>decide_eq_true Zcd);clear hk0 HX;rcases ch2 b b5 with rfl | ⟨rfl,rfl⟩ | ⟨rfl,rfl⟩
           rotate_left 2;cases t
           all_goals
            go_wp2_with fail
            go_quiet ((first
             | (go_at_call_of 114 (x.Ma.length); exact L1 (uE.I _ _))
             | (go_at_call_of 41 (x.id); exact L1 (kI.I _))
             | (go_at_call_of 41 (x.max); exact L1 (lE.I _))))
            go_wp2
            first
             | (go_ret; exact ⟨al (fv (HV.I.2 rfl)).symm,bd (cy.I.2.2.alloc cy.I.2.2.size _) _⟩)
             | (go_roundw; (case rel=>exact ⟨k1,by rw [hk1.I]; omega,by rw [hk1.I]; go_num,⟨HV.I.1 rfl,bd (HA.I.2.alloc HA.I.2.size _) _⟩⟩); (case measure=>simp [intOf]; omega))
          obtain ⟨j,rfl⟩: ∃ j,k=j+1:=⟨k - 1,zw⟩
          obtain ⟨y,hy⟩: ∃ y,p.ae[j]? =o_ y:=⟨_,Kz zw⟩
          have cp:wr.cell? ⟨gs,j * 3,n_⟩=o_ (i_ j_ y.id):=HP.I y hy;have j0:(0:Int)<=(j:Int):=zw
          have j1:(j:Int) < (p.ae.length:Int):=zw
          have wk:IntKind.i64.wrap (j:Int)=(j:Int):=by rw [K8]; omega
          obtain ⟨c,hc⟩: ∃ c,c=decide (y.id < x.id):=⟨_,rfl⟩
          have HV:=HX.I c (fun _=>by rw [hc]; show decide (_ < x.id)=_; rw [eG hy 0]);have dp:decide (x.id<=y.id)= !c:=by rw [hc,<- decide_not]; exact decide_eq_decide.2 zw
          clear hy hk0 HX hc;cases c
          all_goals
           try simp only [Bool.not_false,Bool.not_true] at dp
           rcases ch2 b b5 with rfl | ⟨rfl,rfl⟩ | ⟨rfl,rfl⟩
           rotate_left 2;cases t
           all_goals
            go_wp2_with fail
            go_quiet ((first
             | (go_at_call_of 114 (x.Ma.length); exact L1 (uE.I _ _))
             | (go_at_call_of 41 (x.id); exact L1 (kI.I _))
             | (go_at_call_of 41 (x.max); exact L1 (lE.I _))))
            go_wp2
            first
             | (go_ret; exact ⟨al (fv (HV.I.2 rfl)).symm,bd (cy.I.2.2.alloc cy.I.2.2.size _) _⟩)
             | (go_roundw; (case rel=>exact ⟨k1,by rw [hk1.I]; omega,by rw [hk1.I]; go_num,⟨HV.I.1 rfl,bd (HA.I.2.alloc HA.I.2.size _) _⟩⟩); (case measure=>simp [intOf]; omega))
        .have i1: ¬ (k:Int) < (p.ae.length:Int):=zw
         have Fz:bN (aw (fun x:au=>x.id) (fun x=>ct x.toci) 0 p.ae=true):=by have:=HA.I.1; rwa [KF zw] at this
         clear HA HB hlt hk hsz hll;go_wp2_with fail;clear i1 m0 m1 m2 m3 m4 m5 m6 m7
         rename w_=>W3
         have HB:bN (av W3 w.heap.size p/\af.At W3 p/\B_ w.heap.size w W3):=cy.I;clear cy
         go_loopw [10] (fun i wr=> ∃ k:Nat,k<=p.ai.length/\i=i_ j_ k/\bN (aw (fun x:aM=>x.id) (fun x:aM=>dj x.todS) 0 (p.ai.take k)=true/\B_ W3.heap.size W3 wr)) (fun i _=>p.ai.length - (intOf i).toNat)
         case atStart=>exact ⟨0,Ky _,rfl,⟨rfl,Kp _ _⟩⟩
         case round=>
          obtain ⟨k,hk,rfl,HA⟩:=hrel;have hsz:w.heap.size < wr.heap.size:=Kn (J2.1 HB.I.1).1 HA.I.2.size;have cy:bN (av wr w.heap.size p/\af.At wr p/\B_ w.heap.size w wr):=⟨HB.I.1.below HA.I.2,HB.I.2.1.below HA.I.2,HB.I.2.2.trans (HA.I.2.mono HB.I.2.2.size)⟩
          obtain ⟨m0,m1,m2,m3,m4,m5,m6,m7⟩:=cy.I.1.cells;have hll:=fl.I.short.ai;by_cases hlt:k < p.ai.length
          .as_aux_lemma=>
            have i0:(0:Int)<=(k:Int):=zw
            have i1:(k:Int) < (p.ai.length:Int):=zw
            obtain ⟨x,hx⟩: ∃ x,p.ai[k]? =o_ x:=⟨_,Kz hlt⟩
            have hmem:=KA hx;obtain ⟨gs,ha,hat⟩:=lm cy.I.2.1.2.2.2.2.2 hx;have hgs:gs < wr.heap.size:=Le hat.1;have HP:bN (∀ y,p.ai[k - 1]? =o_ y->wr.cell? ⟨gs,(k - 1) * 5,n_⟩=o_ (i_ j_ y.id)):=fun y hy=>by
             obtain ⟨g2,ha2,g8⟩:=lm cy.I.2.1.2.2.2.2.2 hy;exact Za6
            obtain ⟨c0,c1,c2,c3,c4⟩:=hat;rw [ha] at m7;obtain ⟨b,kI,lN⟩:=anx x.id 1 1000;obtain ⟨b5,lE,H5⟩:=anx x.max 1 5;obtain ⟨t,uE,HT⟩:=anI x.aq x.max (⟨(fl.I.ai x hmem).1,(fl.I.ai x hmem).2,nJ cy.I.2.1.2.2.2.2.2 hx⟩:fT wr x.ak x.Ma);obtain ⟨s,hs⟩: ∃ s,x.Mf=s:=⟨_,rfl⟩
            rw [hs] at c2;have H6:=aA hs;clear hs;obtain ⟨u,hu,HU⟩: ∃ u,(x.max != 1)=u/\bN (decide (x.max=1)= !u):=⟨_,rfl,aA (by simp [bne,Bool.beq_eq_decide_eq])⟩
            obtain ⟨k1,hk1⟩: ∃ k1,bN (k1=k+1):=⟨_,rfl⟩
            have HV:=fun c hc=>alB (c:=c) (K:=(b5 && ((s || !u) && t))) hk1.I HA.I.1 hx lN.I hc (by simp only [dj,H5.I,H6.I,HT.I,HU.I]; cases b5 <;> cases s <;> cases u <;> cases t <;> rfl)
            have HX:=aA HV;clear hx ha hmem HB HV;by_cases hk0:k=0
            .have dk:decide (0 < k)=false:=decide_eq_false zw
             have HV:=HX.I true (fun e=>decide_eq_true Zcd);clear hk0 HX;rcases ch2 b b5 with rfl | ⟨rfl,rfl⟩ | ⟨rfl,rfl⟩
             rotate_left 2;cases s;cases u;cases t;rotate_left 2;rotate_left 1;cases t
             all_goals
              go_wp2_with fail
              go_quiet ((first
               | (go_at_call_of 114 (x.Ma.length); exact L1 (uE.I _ _))
               | (go_at_call_of 41 (x.id); exact L1 (kI.I _))
               | (go_at_call_of 41 (x.max); exact L1 (lE.I _))))
              go_wp2
              first
               | (go_ret; exact ⟨al (eg (HV.I.2 rfl)).symm,bd (cy.I.2.2.alloc cy.I.2.2.size _) _⟩)
               | (go_roundw; (case rel=>exact ⟨k1,by rw [hk1.I]; omega,by rw [hk1.I]; go_num,⟨HV.I.1 rfl,bd (HA.I.2.alloc HA.I.2.size _) _⟩⟩); (case measure=>simp [intOf]; omega))
            obtain ⟨j,rfl⟩: ∃ j,k=j+1:=⟨k - 1,zw⟩
            obtain ⟨y,hy⟩: ∃ y,p.ai[j]? =o_ y:=⟨_,Kz zw⟩
            have cp:wr.cell? ⟨gs,j * 5,n_⟩=o_ (i_ j_ y.id):=HP.I y hy;have j0:(0:Int)<=(j:Int):=zw
            have j1:(j:Int) < (p.ai.length:Int):=zw
            have wk:IntKind.i64.wrap (j:Int)=(j:Int):=by rw [K8]; omega
            obtain ⟨c,hc⟩: ∃ c,c=decide (y.id < x.id):=⟨_,rfl⟩
            have HV:=HX.I c (fun _=>by rw [hc]; show decide (_ < x.id)=_; rw [eG hy 0]);have dp:decide (x.id<=y.id)= !c:=by rw [hc,<- decide_not]; exact decide_eq_decide.2 zw
            clear hy hk0 HX hc;cases c
            all_goals
             try simp only [Bool.not_false,Bool.not_true] at dp
             rcases ch2 b b5 with rfl | ⟨rfl,rfl⟩ | ⟨rfl,rfl⟩
             rotate_left 2;cases s;cases u;cases t;rotate_left 2;rotate_left 1;cases t
             all_goals
              go_wp2_with fail
              go_quiet ((first
               | (go_at_call_of 114 (x.Ma.length); exact L1 (uE.I _ _))
               | (go_at_call_of 41 (x.id); exact L1 (kI.I _))
               | (go_at_call_of 41 (x.max); exact L1 (lE.I _))))
              go_wp2
              first
               | (go_ret; exact ⟨al (eg (HV.I.2 rfl)).symm,bd (cy.I.2.2.alloc cy.I.2.2.size _) _⟩)
               | (go_roundw; (case rel=>exact ⟨k1,by rw [hk1.I]; omega,by rw [hk1.I]; go_num,⟨HV.I.1 rfl,bd (HA.I.2.alloc HA.I.2.size _) _⟩⟩); (case measure=>simp [intOf]; omega))
          .have i1: ¬ (k:Int) < (p.ai.length:Int):=zw
           have FA:bN (aw (fun x:aM=>x.id) (fun x=>dj x.todS) 0 p.ai=true):=by have:=HA.I.1; rwa [KF zw] at this
           clear HA HB hlt hk hsz hll;have hs:=fl.I.short;have l0:=hs.aj;have l1:=hs.L9;have l2:=hs.ag;have l3:=hs.ae;have l4:=hs.ai;clear hs;cases d0:decide ((p.aj.length:Int)<=5)
           .have HN:bN (bv p=false):=wP d0
            exact Zaq
           cases d1:decide ((p.L9.length:Int)<=5)
           .have HN:bN (bv p=false):=wS d1
            exact Zaq
           cases d2:decide ((p.ag.length:Int)<=5)
           .have HN:bN (bv p=false):=wL d2
            exact Zaq
           cases d3:decide ((p.ae.length:Int)<=5)
           .have HN:bN (bv p=false):=wJ d3
            exact Zaq
           cases d4:decide ((p.ai.length:Int)<=5)
           .have HN:bN (bv p=false):=wv d4
            exact Zaq
           have HY:bN (bv p=true):=yC Hz.I wm.I xD.I Fz.I FA.I d0 d1 d2 d3 d4;go_wp2;go_ret;exact ⟨al HY.I.symm,cy.I.2.2⟩
end
section
open Go.RowKit
attribute [local go_sem ↓] Go.wp_at_zero Go.wp_at_succ
def oQ (p:af) (x:ao):Bool:=cH x.toaD && fF p.next x.toaD && dG p.pure x.toaD
def rG (p:af) (x:ao):bh p.pure x.toaD=(cv x.id 1 1000 && oQ p x):=by
 show (cv x.id 1 1000 && cH x.toaD && fF p.next x.toaD && dG p.pure x.toaD)=_
 simp only [oQ,Bool.and_assoc]
def lR (l:List ao):Prop:=(l.map (·.RU)).Pairwise (fun a b=> ¬ (a=b/\0 < b))
def uU {l:List ao} {k:Nat} {x:ao} (hx:l[k]? =o_ x) (h:lR (l.take k)) (hn: ∀ m y,m < k->l[m]? =o_ y-> ¬ (y.RU=x.RU/\0 < x.RU)):lR (l.take (k+1)):=by
 rw [cj hx];unfold lR;rw [Kl,List.pairwise_append];refine ⟨h,List.pairwise_singleton _ _,fun a ha b hb=> ?_⟩;simp only [Lt,QV,Kt,Ku,or_false] at hb;subst hb;obtain ⟨y,hy,rfl⟩:=Lr.1 ha;obtain ⟨m,hm⟩:=List.mem_iff_getElem?.1 hy;rw [QW] at hm
 split at hm
 .rename_i hlt
  exact hn m y hlt hm
 .cases hm
def xn {l:List ao} {i m:Nat} {x y:ao} (hx:l[i]? =o_ x) (hy:l[m]? =o_ y) (hm:m < i) (h:y.RU=x.RU/\0 < x.RU): ¬ lR l:=fun ha=>by
 unfold lR at ha;rw [Qm,P8] at ha;obtain ⟨hi,rfl⟩:=Lj.1 hx;obtain ⟨hj,rfl⟩:=Lj.1 hy;exact ha m i hj hi hm h
def jk (p:af):aQ p.pure↔(cv p.id 1 6=true/\cv p.next 1 1000000000=true/\p.L8.length<=6/\bv p=true/\aw (fun x:ao=>x.id) (oQ p) 0 p.L8=true/\lR p.L8):=by
 have e1:aw (·.id) (fun x=>cH x && fF p.pure.next x && dG p.pure x) 0 p.pure.L8=aw (fun x:ao=>x.id) (oQ p) 0 p.L8:=jL _ _ _ _ _;have e2:p.pure.L8.length=p.L8.length:=by simp [af.pure]
 have e3:aw (·.id) ct 0 p.pure.ae=aw (fun x:au=>x.id) (fun x=>ct x.toci) 0 p.ae:=jL _ _ _ _ _;have e4:aw (·.id) dj 0 p.pure.ai=aw (fun x:aM=>x.id) (fun x=>dj x.todS) 0 p.ai:=jL _ _ _ _ _;have e5:p.pure.ae.length=p.ae.length:=by simp [af.pure]
 have e6:p.pure.ai.length=p.ai.length:=by simp [af.pure]
 have e7:rb p.pure.L8↔lR p.L8:=by
  unfold rb lR
  show (((p.L8.map (·.toaD))).map (·.RU)).Pairwise _↔_
  rw [Lv];rfl
 constructor
 .intro h
  have hp:=h.L8;rw [e1] at hp;have hb:=h.ae;rw [e3] at hb;have hq:=h.ai;rw [e4] at hq;have n1:=h.dl;have n2:=h.cb;have n3:=h.dH;rw [e2] at n1;rw [e5] at n2;rw [e6] at n3;have hs:aw (fun x:bD=>x.id) gw 0 p.aj=true:=h.aj;have he:aw (fun x:aB=>x.id) ey 0 p.L9=true:=h.L9;have hd:aw (fun x:az=>x.id) cU 0 p.ag=true:=h.ag;have l1:p.aj.length<=5:=h.fx;have l2:p.L9.length<=5:=h.cD;have l3:p.ag.length<=5:=h.cC;refine ⟨h.id,h.next,n1,?_,hp,e7.1 h.apart⟩;simp only [bv,hs,he,hd,hb,hq,decide_eq_true l1,decide_eq_true l2,decide_eq_true l3,decide_eq_true n2,decide_eq_true n3,Bool.and_self]
 .rintro ⟨h1,h2,h3,h4,h5,h6⟩
  simp only [bv,J7,decide_eq_true_eq] at h4;obtain ⟨⟨⟨⟨⟨⟨⟨⟨⟨t1,t2⟩,t3⟩,t4⟩,t5⟩,d1⟩,d2⟩,d3⟩,d4⟩,d5⟩:=h4;exact ⟨h1,h2,by rw [e2]; exact h3,d1,d2,d3,by rw [e5]; exact d4,by rw [e6]; exact d5,by rw [e1]; exact h5,t1,t2,t3,by rw [e3]; exact t4,by rw [e4]; exact t5,e7.2 h6⟩
def zX (w:w_) (p:af) (x:ao) (gs k:Nat) (pre:w_->Prop) (w':w_):Prop:=((w'.cell? ⟨w.heap.size,0,n_⟩=o_ (i_ j_ p.id)/\w'.cell? ⟨w.heap.size,1,n_⟩=o_ (i_ j_ p.next)/\w'.cell? ⟨w.heap.size,2,n_⟩=o_ (s_ (o_ ⟨gs,0,n_⟩) p.L8.length p.aW)/\w'.cell? ⟨w.heap.size,3,n_⟩=o_ (s_ p.bc p.aj.length p.bF)/\w'.cell? ⟨w.heap.size,4,n_⟩=o_ (s_ p.ay p.L9.length p.aO)/\w'.cell? ⟨w.heap.size,5,n_⟩=o_ (s_ p.ax p.ag.length p.aP)/\w'.cell? ⟨w.heap.size,6,n_⟩=o_ (s_ p.am p.ae.length p.aG)/\w'.cell? ⟨w.heap.size,7,n_⟩=o_ (s_ p.aK p.ai.length p.aV))/\(w'.cell? ⟨gs,k * 12,n_⟩=o_ (i_ j_ x.id)/\w'.cell? ⟨gs,k * 12+1,n_⟩=o_ (i_ j_ x.RX)/\w'.cell? ⟨gs,k * 12+2,n_⟩=o_ (s_ x.aY x.prog.length x.bH)/\w'.cell? ⟨gs,k * 12+3,n_⟩=o_ (i_ j_ x.Md)/\w'.cell? ⟨gs,k * 12+4,n_⟩=o_ (i_ j_ x.pc)/\w'.cell? ⟨gs,k * 12+5,n_⟩=o_ (i_ j_ x.left)/\w'.cell? ⟨gs,k * 12+6,n_⟩=o_ (i_ j_ x.Mg)/\w'.cell? ⟨gs,k * 12+7,n_⟩=o_ (i_ j_ x.on)/\w'.cell? ⟨gs,k * 12+8,n_⟩=o_ (t_ x.held)/\w'.cell? ⟨gs,k * 12+9,n_⟩=o_ (t_ x.got)/\w'.cell? ⟨gs,k * 12+10,n_⟩=o_ (i_ j_ x.code)/\w'.cell? ⟨gs,k * 12+11,n_⟩=o_ (i_ j_ x.RU))/\pre w')/\bN (av w' w.heap.size p/\af.At w' p/\B_ w.heap.size w w')
def kQ {w w':w_} {p:af} {x:ao} {gs k:Nat} {pre:w_->Prop} (ha:p.aN=o_ ⟨gs,0,n_⟩) (hx:p.L8[k]? =o_ x) (h:av w' w.heap.size p/\af.At w' p/\B_ w.heap.size w w') (hp:pre w'):zX w p x gs k pre w':=by
 refine ⟨⟨?_,?_,hp⟩,h⟩
 .have:=h.1.cells
  rw [ha] at this;exact this
 .obtain ⟨g,e,hat⟩:=cn h.2.1.1 hx
  rw [ha] at e;cases e;exact hat
def rk (gs j:Nat) (y:ao) (w':w_):Prop:=w'.cell? ⟨gs,j * 12,n_⟩=o_ (i_ j_ y.id)
def rh {w':w_} {p:af} {gs j:Nat} {y:ao} (ha:p.aN=o_ ⟨gs,0,n_⟩) (hy:p.L8[j]? =o_ y) (h:af.At w' p):rk gs j y w':=by
 obtain ⟨g,e,hat⟩:=cn h.1 hy;rw [ha] at e;cases e;exact hat.1
def eV (p:af) (w:w_) (hf:p.Fit) (hs: ∀ x∈p.L8,x.dX) (h:af.At w p):
  k_ J3 43 #[a_ p.cells] w fun e w'=>e=r_ (b_ (bK p.pure))/\B_ w.heap.size w w':=by
 have HB:bN (av (w.alloc (c_ p.cells 46)) w.heap.size p/\af.At (w.alloc (c_ p.cells 46)) p/\B_ w.heap.size w (w.alloc (c_ p.cells 46))):=⟨Kj _ _,h.below ((Kp _ _).alloc (Ki _) _),(Kp _ _).alloc (Ki _) _⟩
 have fl:bN (p.Fit/\ ∀ x∈p.L8,x.dX):=⟨hf,hs⟩
 have hpl:=hf.short.L8;clear h hf hs;obtain ⟨m0,m1,m2,m3,m4,m5,m6,m7⟩:=HB.I.1.cells;unfold af.cells at *
 go_enter func43,ntmps43
 go_wp2_with fail;generalize w.alloc (c_ p.row 46)=W at *;refine (dx p.id 1 6 _).mono ?_;rintro e w9 ⟨rfl,mW⟩;rw [mW];clear mW w9;cases h1:cv p.id 1 6
 .have hz:True:=trivial
  have HN:bN (bK p.pure=false):=dL fun hr=>by have:=((jk p).1 hr).1; rw [h1] at this; cases this
  clear h1;exact Zbn
 have H1:bN (cv p.id 1 6=true):=h1;clear h1;go_wp2_with fail;refine (dx p.next 1 1000000000 _).mono ?_;rintro e w9 ⟨rfl,mW⟩;rw [mW];clear mW w9;cases h2:cv p.next 1 1000000000
 .have hz:True:=trivial
  have HN:bN (bK p.pure=false):=dL fun hr=>by have:=((jk p).1 hr).2.1; rw [h2] at this; cases this
  clear h2;exact Zbn
 have H2:bN (cv p.next 1 1000000000=true):=h2;clear h2;by_cases h3:(6:Int) < (p.L8.length:Int)
 .have hz:True:=trivial
  have HN:bN (bK p.pure=false):=dL fun hr=>by have:=((jk p).1 hr).2.2.1; omega
  exact Zbn
 have H3:bN (p.L8.length<=6):=by show p.L8.length<=6; omega
 go_wp2_with fail;refine (zI p W fl.I.1 HB.I.2.1).mono ?_;rintro e W1 ⟨rfl,hb1⟩;have fQ:bN (av W1 w.heap.size p/\af.At W1 p/\B_ w.heap.size w W1):=⟨HB.I.1.below hb1,HB.I.2.1.below hb1,HB.I.2.2.trans (hb1.mono HB.I.2.2.size)⟩
 clear hb1 m0 m1 m2 m3 m4 m5 m6 m7 HB;cases h4:bv p
 .have hz:True:=trivial
  have HN:bN (bK p.pure=false):=dL fun hr=>by have:=((jk p).1 hr).2.2.2.1; rw [h4] at this; cases this
  clear h4;go_wp2;go_ret;exact ⟨al HN.I.symm,fQ.I.2.2⟩
 have H4:bN (bv p=true):=h4;clear h4;go_wp2_with fail
 go_loopw [3] (fun i wr=> ∃ k:Nat,k<=p.L8.length/\i=i_ j_ k/\bN (aw (fun x:ao=>x.id) (oQ p) 0 (p.L8.take k)=true/\lR (p.L8.take k)/\B_ W1.heap.size W1 wr)) (fun i _=>p.L8.length - (intOf i).toNat)
 case atStart=>exact ⟨0,Ky _,rfl,⟨rfl,List.Pairwise.nil,Kp _ _⟩⟩
 case round=>
  obtain ⟨k,hk,rfl,HA⟩:=hrel;have cy:bN (av wr w.heap.size p/\af.At wr p/\B_ w.heap.size w wr):=⟨fQ.I.1.below HA.I.2.2,fQ.I.2.1.below HA.I.2.2,fQ.I.2.2.trans (HA.I.2.2.mono fQ.I.2.2.size)⟩
  obtain ⟨m0,m1,m2,m3,m4,m5,m6,m7⟩:=cy.I.1.cells;by_cases hlt:k < p.L8.length
  .have i0:(0:Int)<=(k:Int):=zw
   have i1:(k:Int) < (p.L8.length:Int):=zw
   obtain ⟨x,hx⟩: ∃ x,p.L8[k]? =o_ x:=⟨_,Kz hlt⟩
   have hmem:=KA hx;obtain ⟨gs,ha,hat⟩:=cn cy.I.2.1.1 hx;have mR:bN (p.aN=o_ ⟨gs,0,n_⟩/\p.L8[k]? =o_ x):=⟨ha,hx⟩
   have HXS:bN (x.dX/\Row wr x.aY (fk.flat x.prog)):=⟨fl.I.2 x hmem,lA cy.I.2.1.1 hx⟩
   have Jf:bN (1<=p.next/\p.next<=1000000000):=bz.1 H2.I;rw [ha] at m2;clear hx hmem ha hat;go_wp2_with fail;cases td:bh p.pure x.toaD
   .have HPO:bN (bh p.pure x.toaD=false):=td
    have HN:bN (bK p.pure=false):=dL fun hr=>by have h9:=((jk p).1 hr).2.2.2.2.1; rw [bS mR.I.2 (fun hh=>by have h8:=HPO.I; rw [rG,hh.1,hh.2.2] at h8; cases h8)] at h9; cases h9
    clear td m0 m1 m2 m3 m4 m5 m6 m7;refine aT (zX w p x gs k (fun _=>True)) ZbY (kQ mR.I.1 mR.I.2 ⟨cy.I.1,cy.I.2.1,cy.I.2.2.drew⟩ trivial) ?_
    iterate 6 (refine PI ?_ (hy:=fun w0 hS0=>by obtain ⟨⟨⟨q0,q1,q2,q3,q4,q5,q6,q7⟩,⟨x0,x1,x2,x3,x4,x5,x6,x7,x8,x9,x10,Dm⟩,hpre⟩,hH⟩:=hS0; go_simp; try with_reducible rfl))
    refine cl (b_ false) 72 #[a_ (p.L6 gs),a_ x.row] ?_ ?_ ?_
    .intro w0 hS0
     obtain ⟨⟨⟨q0,q1,q2,q3,q4,q5,q6,q7⟩,⟨x0,x1,x2,x3,x4,x5,x6,x7,x8,x9,x10,Dm⟩,hpre⟩,hH⟩:=hS0
     exact ww
    .intro w0 hS0
     have hq:=hS0.2.I;rw [show (Value.agg (p.L6 gs))=a_ p.cells by unfold af.cells; rw [mR.I.1]];refine (lk p x w0 fl.I.1.short HXS.I.1 Jf.I.1 Jf.I.2 hq.2.1 (lA hq.2.1.1 mR.I.2)).mono ?_;rintro e w2 ⟨rfl,hb2⟩;exact ⟨al HPO.I,kQ mR.I.1 mR.I.2 ⟨hq.1.below hb2,hq.2.1.below hb2,hq.2.2.trans (hb2.mono hq.2.2.size)⟩ trivial⟩
    simp only [pt,sb,s0,s1]
    iterate 2 (refine PI ?_ (hy:=fun w0 hS0=>by obtain ⟨⟨⟨q0,q1,q2,q3,q4,q5,q6,q7⟩,⟨x0,x1,x2,x3,x4,x5,x6,x7,x8,x9,x10,Dm⟩,hpre⟩,hH⟩:=hS0; go_simp; try with_reducible rfl))
    iterate 18 (refine nl ?_; simp only [pt,sb,s0,s1])
    (refine PI ?_ (hy:=fun w0 hS0=>by obtain ⟨⟨⟨q0,q1,q2,q3,q4,q5,q6,q7⟩,⟨x0,x1,x2,x3,x4,x5,x6,x7,x8,x9,x10,Dm⟩,hpre⟩,hH⟩:=hS0; go_simp; try with_reducible rfl))
    refine bk ZbY ?_ _;intro w1 cm;have HZ:bN (B_ w.heap.size w w1):=cm.2.I.2.2;clear cm;go_wp2;go_ret;exact ⟨al HN.I.symm,HZ.I⟩
   have HPO:bN (bh p.pure x.toaD=true):=td;have lN:bN (cv x.id 1 1000=true/\oQ p x=true):=by have h8:=HPO.I; rw [rG,J7] at h8; exact h8
   clear td;by_cases hk0:k=0
   .have dk:decide (0 < k)=false:=decide_eq_false zw
    have j6:bN (bW (fun x:ao=>x.id) 0 (p.L8.take k) < x.id):=by show _ < _; rw [hk0,lx]; have:=bz.1 lN.I.1; omega
    clear hk0 m0 m1 m2 m3 m4 m5 m6 m7;refine aT (fun w'=>zX w p x gs k (fun _=>True) w'/\bN (B_ wr.heap.size wr w')) ZbY ⟨kQ mR.I.1 mR.I.2 ⟨cy.I.1,cy.I.2.1,cy.I.2.2.drew⟩ trivial,(Kp _ _).drew⟩ ?_
    iterate 6 (refine PI ?_ (hy:=fun w0 hS0=>by obtain ⟨⟨⟨⟨q0,q1,q2,q3,q4,q5,q6,q7⟩,⟨x0,x1,x2,x3,x4,x5,x6,x7,x8,x9,x10,Dm⟩,hpre⟩,hH⟩,hH2⟩:=hS0; go_simp; try with_reducible rfl))
    refine cl (b_ true) 72 #[a_ (p.L6 gs),a_ x.row] ?_ ?_ ?_
    .intro w0 hS0
     obtain ⟨⟨⟨⟨q0,q1,q2,q3,q4,q5,q6,q7⟩,⟨x0,x1,x2,x3,x4,x5,x6,x7,x8,x9,x10,Dm⟩,hpre⟩,hH⟩,hH2⟩:=hS0
     exact ww
    .intro w0 hS0
     have hq:=hS0.1.2.I;rw [show (Value.agg (p.L6 gs))=a_ p.cells by unfold af.cells; rw [mR.I.1]];refine (lk p x w0 fl.I.1.short HXS.I.1 Jf.I.1 Jf.I.2 hq.2.1 (lA hq.2.1.1 mR.I.2)).mono ?_;rintro e w2 ⟨rfl,hb2⟩;exact ⟨al HPO.I,kQ mR.I.1 mR.I.2 ⟨hq.1.below hb2,hq.2.1.below hb2,hq.2.2.trans (hb2.mono hq.2.2.size)⟩ trivial,hS0.2.I.trans (hb2.mono hS0.2.I.size)⟩
    simp only [pt,sb,s0,s1]
    iterate 5 (refine PI ?_ (hy:=fun w0 hS0=>by obtain ⟨⟨⟨⟨q0,q1,q2,q3,q4,q5,q6,q7⟩,⟨x0,x1,x2,x3,x4,x5,x6,x7,x8,x9,x10,Dm⟩,hpre⟩,hH⟩,hH2⟩:=hS0; go_simp; try with_reducible rfl))
    iterate 14 (refine nl ?_; simp only [pt,sb,s0,s1])
    iterate 2 (refine PI ?_ (hy:=fun w0 hS0=>by obtain ⟨⟨⟨⟨q0,q1,q2,q3,q4,q5,q6,q7⟩,⟨x0,x1,x2,x3,x4,x5,x6,x7,x8,x9,x10,Dm⟩,hpre⟩,hH⟩,hH2⟩:=hS0; go_simp; try with_reducible rfl))
    exact e_
   obtain ⟨j,hj⟩: ∃ j,k=j+1:=⟨k - 1,zw⟩
   obtain ⟨y,hy⟩: ∃ y,p.L8[j]? =o_ y:=⟨_,Kz zw⟩
   have j0:(0:Int)<=(j:Int):=zw
   have j1:(j:Int) < (p.L8.length:Int):=zw
   have dk:decide (0 < k)=true:=decide_eq_true zw;have wk:IntKind.i64.wrap ((k:Int) - 1)=(j:Int):=by rw [K8]; omega
   have wV:bN (bW (fun x:ao=>x.id) 0 (p.L8.take k)=y.id/\p.L8[j]? =o_ y):=⟨by rw [hj]; exact eG hy 0,hy⟩
   clear hj hy hk0 m0 m1 m2 m3 m4 m5 m6 m7;by_cases hle:x.id<=y.id
   .have dp:decide (x.id<=y.id)=true:=decide_eq_true hle
    have HN:bN (bK p.pure=false):=dL fun hr=>by have h9:=((jk p).1 hr).2.2.2.2.1; rw [bS mR.I.2 (fun hh=>by have h8:=hh.2.1; rw [wV.I.1] at h8; have h8:y.id < x.id:=h8; omega)] at h9; cases h9
    refine aT (fun w'=>zX w p x gs k (rk gs j y) w'/\bN (B_ wr.heap.size wr w')) ZbY ⟨kQ mR.I.1 mR.I.2 ⟨cy.I.1,cy.I.2.1,cy.I.2.2.drew⟩ (rh mR.I.1 wV.I.2 cy.I.2.1),(Kp _ _).drew⟩ ?_
    iterate 6 (refine PI ?_ (hy:=fun w0 hS0=>by obtain ⟨⟨⟨⟨q0,q1,q2,q3,q4,q5,q6,q7⟩,⟨x0,x1,x2,x3,x4,x5,x6,x7,x8,x9,x10,Dm⟩,hpre⟩,hH⟩,hH2⟩:=hS0; unfold rk at hpre; go_simp; try with_reducible rfl))
    refine cl (b_ true) 72 #[a_ (p.L6 gs),a_ x.row] ?_ ?_ ?_
    .exact ZbO
    .exact ws
    simp only [pt,sb,s0,s1]
    iterate 21 (refine PI ?_ (hy:=fun w0 hS0=>by obtain ⟨⟨⟨⟨q0,q1,q2,q3,q4,q5,q6,q7⟩,⟨x0,x1,x2,x3,x4,x5,x6,x7,x8,x9,x10,Dm⟩,hpre⟩,hH⟩,hH2⟩:=hS0; unfold rk at hpre; go_simp; try with_reducible rfl))
    refine bk ZbY ?_ _;intro w1 cm;have HZ:bN (B_ w.heap.size w w1):=cm.1.2.I.2.2;clear cm;go_wp2;go_ret;exact ⟨al HN.I.symm,HZ.I⟩
   have dp:decide (x.id<=y.id)=false:=decide_eq_false hle;have j6:bN (bW (fun x:ao=>x.id) 0 (p.L8.take k) < x.id):=by show _ < _; rw [wV.I.1]; show y.id < x.id; omega
   clear hle;refine aT (fun w'=>zX w p x gs k (rk gs j y) w'/\bN (B_ wr.heap.size wr w')) ZbY ⟨kQ mR.I.1 mR.I.2 ⟨cy.I.1,cy.I.2.1,cy.I.2.2.drew⟩ (rh mR.I.1 wV.I.2 cy.I.2.1),(Kp _ _).drew⟩ ?_
   iterate 6 (refine PI ?_ (hy:=fun w0 hS0=>by obtain ⟨⟨⟨⟨q0,q1,q2,q3,q4,q5,q6,q7⟩,⟨x0,x1,x2,x3,x4,x5,x6,x7,x8,x9,x10,Dm⟩,hpre⟩,hH⟩,hH2⟩:=hS0; unfold rk at hpre; go_simp; try with_reducible rfl))
   refine cl (b_ true) 72 #[a_ (p.L6 gs),a_ x.row] ?_ ?_ ?_
   .exact ZbO
   .exact ws
   simp only [pt,sb,s0,s1]
   iterate 21 (refine PI ?_ (hy:=fun w0 hS0=>by obtain ⟨⟨⟨⟨q0,q1,q2,q3,q4,q5,q6,q7⟩,⟨x0,x1,x2,x3,x4,x5,x6,x7,x8,x9,x10,Dm⟩,hpre⟩,hH⟩,hH2⟩:=hS0; unfold rk at hpre; go_simp; try with_reducible rfl))
   exact e_
  .have i1: ¬ (k:Int) < (p.L8.length:Int):=zw
   have ek:p.L8.take k=p.L8:=KF zw;have HY:bN (bK p.pure=true):=fP ((jk p).2 ⟨H1.I,H2.I,H3.I,H4.I,by have:=HA.I.1; rwa [ek] at this,by have:=HA.I.2.1; rwa [ek] at this⟩);clear ek;go_wp2;go_ret;exact ⟨al HY.I.symm,cy.I.2.2⟩
end
end Go.Proofs.YtckenjkcmajicaaGreat
