/- What the proof leans on, part 8. -/
import Derived.Test.YtckenjkcmajicaaGreatOwnG4
import Derived.Test.YtckenjkcmajicaaGreatOwnG6
import Derived.Deep.CutRange
set_option linter.all false
set_option maxRecDepth 100000
set_option maxHeartbeats 8000000
open Go.Proofs.Tryz
open Go renaming World->w_,Calls->k_,Addr->d_
open Go.Ending renaming returned->r_
open Go.IntKind renaming i64->j_
open Go.Obj renaming cells->c_
open Go.RowKit renaming Below->B_,Hid->da
open Go.Value renaming int->i_,slice->s_,bool->b_,string->t_,agg->a_,tuple->u_
open Option renaming some->o_,none->n_
open Go renaming wp_at_succ->Kd,wp_at_zero->Kc
open Go.Proofs.Tryz renaming prog->J3
open List renaming any_eq_true->aev,find?_cons->LL,find?_map->aeu,find?_some->PS,mem_of_find?_eq_some->RG
open Option renaming bind_some->aeE,map_some->J9

open Go.RowKit
namespace Go.Proofs.YtckenjkcmajicaaGreat
section
def anx (n lo hi:Int):∃b,da (∀w,k_ J3 41 #[i_ j_ n,i_ j_ lo,i_ j_ hi] w λe w'=>e=r_ (b_ b)/\w'=w)/\da (cv n lo hi=b):=⟨_,dx n lo hi,rfl⟩
def bv (p:af):Bool:=aw (λx:bD=>x.id) gw 0 p.aj&&aw (λx:aB=>x.id) ey 0 p.L9&&aw (λx:az=>x.id) cU 0 p.ag&&aw (λx:au=>x.id) (λx=>ct x.toci) 0 p.ae&&aw (λx:aM=>x.id) (λx=>dj x.todS) 0 p.ai&&decide (p.aj.length<=5)&&decide (p.L9.length<=5)&&decide (p.ag.length<=5)&&decide (p.ae.length<=5)&&decide (p.ai.length<=5)
def gQ {p:af}(h:aw (λx:bD=>x.id) gw 0 p.aj=false):bv p=false:=Zfg
def nk {p:af}(h:aw (λx:aB=>x.id) ey 0 p.L9=false):bv p=false:=Zfg
def fJ {p:af}(h:aw (λx:az=>x.id) cU 0 p.ag=false):bv p=false:=Zfg
def fv {p:af}(h:aw (λx:au=>x.id) (λx=>ct x.toci) 0 p.ae=false):bv p=false:=Zfg
def eg {p:af}(h:aw (λx:aM=>x.id) (λx=>dj x.todS) 0 p.ai=false):bv p=false:=Zfg
def wP {p:af}(h:decide ((p.aj.length:Int)<=5)=false):bv p=false:=by
 have h1:decide (p.aj.length<=5)=false:=decide_eq_false ZcX;simp[bv,h1]
def wS {p:af}(h:decide ((p.L9.length:Int)<=5)=false):bv p=false:=by
 have h1:decide (p.L9.length<=5)=false:=decide_eq_false ZcX;simp[bv,h1]
def wL {p:af}(h:decide ((p.ag.length:Int)<=5)=false):bv p=false:=by
 have h1:decide (p.ag.length<=5)=false:=decide_eq_false ZcX;simp[bv,h1]
def wJ {p:af}(h:decide ((p.ae.length:Int)<=5)=false):bv p=false:=by
 have h1:decide (p.ae.length<=5)=false:=decide_eq_false ZcX;simp[bv,h1]
def wv {p:af}(h:decide ((p.ai.length:Int)<=5)=false):bv p=false:=by
 have h1:decide (p.ai.length<=5)=false:=decide_eq_false ZcX;simp[bv,h1]
def yC {p:af}(t0:aw (λx:bD=>x.id) gw 0 p.aj=true)(t1:aw (λx:aB=>x.id) ey 0 p.L9=true)(t2:aw (λx:az=>x.id) cU 0 p.ag=true)(t3:aw (λx:au=>x.id) (λx=>ct x.toci) 0 p.ae=true)(t4:aw (λx:aM=>x.id) (λx=>dj x.todS) 0 p.ai=true)(d0:decide ((p.aj.length:Int)<=5)=true)(d1:decide ((p.L9.length:Int)<=5)=true)(d2:decide ((p.ag.length:Int)<=5)=true)(d3:decide ((p.ae.length:Int)<=5)=true)(d4:decide ((p.ai.length:Int)<=5)=true):bv p=true:=by
 have e0:decide (p.aj.length<=5)=true:=decide_eq_true (by have:=of_decide_eq_true d0;omega);have e1:decide (p.L9.length<=5)=true:=decide_eq_true (by have:=of_decide_eq_true d1;omega);have e2:decide (p.ag.length<=5)=true:=decide_eq_true (by have:=of_decide_eq_true d2;omega);have e3:decide (p.ae.length<=5)=true:=decide_eq_true (by have:=of_decide_eq_true d3;omega);have e4:decide (p.ai.length<=5)=true:=decide_eq_true (by have:=of_decide_eq_true d4;omega);simp only[bv,t0,t1,t2,t3,t4,e0,e1,e2,e3,e4,Bool.and_self]
def rm {s:ByteArray}{b:Bool}(h:bw s=b)(hs:s.size<=1048576)(w:w_):k_ J3 113 #[t_ s] w λe w'=>e=r_ (b_ b)/\w'=w:=by
 refine(jC s w hs).mono ?_;rintro e w' ⟨rfl,rfl⟩;exact⟨al h,rfl⟩
def iz {W:w_}{o:Obj}{a:Option d_}{l:List ByteArray}{cap:Nat}{Me:Int}{b:Bool}(h:dJ l Me=b)(hf:fT W a l)(n:Nat):
  k_ J3 114 #[s_ a l.length cap,i_ j_ Me] ((W.alloc o).drewN n) λe w'=>e=r_ (b_ b)/\w'=(W.alloc o).drewN n:=by
 refine(Aj a l cap Me ((W.alloc o).drewN n) hf.len hf.short ?_).mono ?_
 .exact hf.row.below (bd ((Kp _ W).alloc (Ki _) o) n)
 .rintro e w' ⟨rfl,rfl⟩
  exact⟨al h,rfl⟩
def lx {α:Type}{num:α->Int}{l:List α}:bW num 0 (l.take 0)=0:=by simp[bW]
structure af.Fit (p:af):Prop where
 short:p.dX
 ag:∀b∈p.ag,b.text.size<=1048576
 ae:∀b∈p.ae,b.Ma.length<=1048576/\∀s∈b.Ma,s.size<=1048576
 ai:∀b∈p.ai,b.Ma.length<=1048576/\∀s∈b.Ma,s.size<=1048576
def anW {s:ByteArray}(hs:s.size<=1048576):∃b,da (∀w,k_ J3 113 #[t_ s] w λe w'=>e=r_ (b_ b)/\w'=w)/\da (bw s=b):=⟨_,rm rfl hs,rfl⟩
def anI {W:w_}{a:Option d_}{l:List ByteArray}(cap:Nat)(Me:Int)(hf:fT W a l):∃b,da (∀o n,k_ J3 114 #[s_ a l.length cap,i_ j_ Me] ((W.alloc o).drewN n) λe w'=>e=r_ (b_ b)/\w'=(W.alloc o).drewN n)/\da (dJ l Me=b):=⟨_,λ_ n=>iz rfl hf n,rfl⟩
def alB {α:Type}{num:α->Int}{ok:α->Bool}{l:List α}{k k1:Nat}{x:α}{b c K:Bool}(e:k1=k+1)(hA:aw num ok 0 (l.take k)=true)(hx:l[k]? =o_ x)(hin:cv (num x) 1 1000=b)(hc:b=true->decide (bW num 0 (l.take k)<num x)=c)(hok:ok x=K):
  da (((b&&(c&&K))=true->aw num ok 0 (l.take k1)=true)/\((b&&(c&&K))=false->aw num ok 0 l=false)):=by
 subst e hok;constructor
 .intro h
  simp only[J7]at h;obtain⟨rfl,rfl,h3⟩:=h;exact ed hA hx hin (of_decide_eq_true (hc rfl)) h3
 .intro h
  refine bS hx λhh=>?_
  rw[hin]at hh;rw[hh.1,hh.2.2,<-hc hh.1,decide_eq_true hh.2.1]at h;cases h
def ch2 (a b:Bool):a=false\/(a=true/\b=false)\/(a=true/\b=true):=by cases a<;>cases b<;>simp
def zI (p:af)(w:w_)(hf:p.Fit)(h:af.At w p):
  k_ J3 71 #[a_ p.cells] w λe w'=>e=r_ (b_ (bv p))/\B_ w.heap.size w w':=by
 have HB:da (av (w.alloc (c_ p.cells 46)) w.heap.size p/\af.At (w.alloc (c_ p.cells 46)) p/\B_ w.heap.size w (w.alloc (c_ p.cells 46))):=⟨Kj _ _,h.below ((Kp _ _).alloc (Ki _) _),(Kp _ _).alloc (Ki _) _⟩
 have fl:da p.Fit:=hf;clear h hf;unfold af.cells at*
 go_enter func71,ntmps71
 go_wp2_with fail;generalize w.alloc (c_ p.row 46)=W at*
 go_loopw[3] (λi wr=>∃k:Nat,k<=p.aj.length/\i=i_ j_ k/\da (aw (λx:bD=>x.id) gw 0 (p.aj.take k)=true/\B_ W.heap.size W wr)) (λi _=>p.aj.length-(intOf i).toNat)
 case atStart=>exact Zdd
 case round=>
  obtain⟨k,hk,rfl,HA⟩:=hrel;have hsz:w.heap.size<wr.heap.size:=Kn (J2.1 HB.I.1).1 HA.I.2.size;have cy:da (av wr w.heap.size p/\af.At wr p/\B_ w.heap.size w wr):=⟨HB.I.1.below HA.I.2,HB.I.2.1.below HA.I.2,HB.I.2.2.trans (HA.I.2.mono HB.I.2.2.size)⟩
  obtain⟨m0,m1,m2,m3,m4,m5,m6,m7⟩:=cy.I.1.cells;have hll:=fl.I.short.aj;by_cases hlt:k<p.aj.length
  .as_aux_lemma=>
    have i0:(0:Int)<=(k:Int):=zw
    have i1:(k:Int)<(p.aj.length:Int):=zw
    obtain⟨x,hx⟩:∃x,p.aj[k]? =o_ x:=⟨_,Kz hlt⟩
    have hmem:=KA hx;obtain⟨gs,ha,hat⟩:=lQ cy.I.2.1.2.1 hx;have hgs:gs<wr.heap.size:=Le hat.1;have HP:da (∀y,p.aj[k-1]? =o_ y->wr.cell? ⟨gs,(k-1)*3,n_⟩=o_ (i_ j_ y.id)):=λy hy=>by
     obtain⟨g2,ha2,g8⟩:=lQ cy.I.2.1.2.1 hy;exact ZaT
    obtain⟨c0,c1,c2⟩:=hat;rw[ha]at m3;obtain⟨b,kI,lN⟩:=anx x.id 1 1000;obtain⟨b5,lE,H5⟩:=anx x.max 1 1000;obtain⟨b6,HC6,H6⟩:=anx x.n 0 x.max;obtain⟨k1,hk1⟩:∃k1,da (k1=k+1):=⟨_,rfl⟩
    have HV:=λc hc=>alB (c:=c) (K:=(b5&&b6)) hk1.I HA.I.1 hx lN.I hc (by simp[gw,H5.I,H6.I])
    have HX:=aA HV;clear hx ha hmem HB HV;by_cases hk0:k=0
    .have dk:decide (0<k)=false:=decide_eq_false zw
     have HV:=HX.I true (λe=>decide_eq_true Zcf);clear hk0 HX;rcases ch2 b b5 with rfl|⟨rfl,rfl⟩|⟨rfl,rfl⟩
     rotate_left 2;cases b6
     all_goals
      go_wp2_with fail
      go_quiet ((first
       |(go_at_call_of 41 (x.id);exact L1 (kI.I _))
       |(go_at_call_of 41 (x.n);exact L1 (HC6.I _))
       |(go_at_call_of 41 (x.max);exact L1 (lE.I _))))
      go_wp2
      first
       |(go_ret;exact⟨al (gQ (HV.I.2 rfl)).symm,bd (cy.I.2.2.alloc cy.I.2.2.size _) _⟩)
       |(go_roundw;(case rel=>exact⟨k1,ZcO,ZcK,⟨HV.I.1 rfl,bd (HA.I.2.alloc HA.I.2.size _) _⟩⟩);(case measure=>simp[intOf];omega))
    obtain⟨j,rfl⟩:∃j,k=j+1:=⟨k-1,zw⟩
    obtain⟨y,hy⟩:∃y,p.aj[j]? =o_ y:=⟨_,Kz zw⟩
    have cp:wr.cell? ⟨gs,j*3,n_⟩=o_ (i_ j_ y.id):=HP.I y hy;have j0:(0:Int)<=(j:Int):=zw
    have j1:(j:Int)<(p.aj.length:Int):=zw
    have wk:IntKind.i64.wrap (j:Int)=(j:Int):=Zca
    obtain⟨c,hc⟩:∃c,c=decide (y.id<x.id):=⟨_,rfl⟩
    have HV:=HX.I c (λ_=>Zct);have dp:decide (x.id<=y.id)= !c:=Zcg
    clear hy hk0 HX hc;cases c
    all_goals
     try simp only[Bool.not_false,Bool.not_true]at dp
     rcases ch2 b b5 with rfl|⟨rfl,rfl⟩|⟨rfl,rfl⟩
     rotate_left 2;cases b6
     all_goals
      go_wp2_with fail
      go_quiet ((first
       |(go_at_call_of 41 (x.id);exact L1 (kI.I _))
       |(go_at_call_of 41 (x.n);exact L1 (HC6.I _))
       |(go_at_call_of 41 (x.max);exact L1 (lE.I _))))
      go_wp2
      first
       |(go_ret;exact⟨al (gQ (HV.I.2 rfl)).symm,bd (cy.I.2.2.alloc cy.I.2.2.size _) _⟩)
       |(go_roundw;(case rel=>exact⟨k1,ZcO,ZcK,⟨HV.I.1 rfl,bd (HA.I.2.alloc HA.I.2.size _) _⟩⟩);(case measure=>simp[intOf];omega))
  .have i1:¬(k:Int)<(p.aj.length:Int):=zw
   have Hz:da (aw (λx:bD=>x.id) gw 0 p.aj=true):=Zce
   clear HA HB hlt hk hsz hll;go_wp2_with fail;clear i1 m0 m1 m2 m3 m4 m5 m6 m7
   rename w_=>W0
   have HB:da (av W0 w.heap.size p/\af.At W0 p/\B_ w.heap.size w W0):=cy.I;clear cy
   go_loopw[5] (λi wr=>∃k:Nat,k<=p.L9.length/\i=i_ j_ k/\da (aw (λx:aB=>x.id) ey 0 (p.L9.take k)=true/\B_ W0.heap.size W0 wr)) (λi _=>p.L9.length-(intOf i).toNat)
   case atStart=>exact Zdd
   case round=>
    obtain⟨k,hk,rfl,HA⟩:=hrel;have hsz:w.heap.size<wr.heap.size:=Kn (J2.1 HB.I.1).1 HA.I.2.size;have cy:da (av wr w.heap.size p/\af.At wr p/\B_ w.heap.size w wr):=⟨HB.I.1.below HA.I.2,HB.I.2.1.below HA.I.2,HB.I.2.2.trans (HA.I.2.mono HB.I.2.2.size)⟩
    obtain⟨m0,m1,m2,m3,m4,m5,m6,m7⟩:=cy.I.1.cells;have hll:=fl.I.short.L9;by_cases hlt:k<p.L9.length
    .as_aux_lemma=>
      have i0:(0:Int)<=(k:Int):=zw
      have i1:(k:Int)<(p.L9.length:Int):=zw
      obtain⟨x,hx⟩:∃x,p.L9[k]? =o_ x:=⟨_,Kz hlt⟩
      have hmem:=KA hx;obtain⟨gs,ha,hat⟩:=j4 cy.I.2.1.2.2.1 hx;have hgs:gs<wr.heap.size:=Le hat.1;have HP:da (∀y,p.L9[k-1]? =o_ y->wr.cell? ⟨gs,(k-1)*2,n_⟩=o_ (i_ j_ y.id)):=λy hy=>by
       obtain⟨g2,ha2,g8⟩:=j4 cy.I.2.1.2.2.1 hy;exact ZaT
      obtain⟨c0,c1⟩:=hat;rw[ha]at m4;obtain⟨b,kI,lN⟩:=anx x.id 1 1000;obtain⟨k1,hk1⟩:∃k1,da (k1=k+1):=⟨_,rfl⟩
      have HV:=λc hc=>alB (c:=c) (K:=true) hk1.I HA.I.1 hx lN.I hc (rfl)
      have HX:=aA HV;clear hx ha hmem HB HV;by_cases hk0:k=0
      .have dk:decide (0<k)=false:=decide_eq_false zw
       have HV:=HX.I true (λe=>decide_eq_true Zcf);clear hk0 HX;cases b
       all_goals
        go_wp2_with fail
        go_quiet ((first
         |(go_at_call_of 41 (x.id);exact L1 (kI.I _))))
        go_wp2
        first
         |(go_ret;exact⟨al (nk (HV.I.2 rfl)).symm,bd cy.I.2.2 _⟩)
         |(go_roundw;(case rel=>exact⟨k1,ZcO,ZcK,⟨HV.I.1 rfl,bd HA.I.2 _⟩⟩);(case measure=>simp[intOf];omega))
      obtain⟨j,rfl⟩:∃j,k=j+1:=⟨k-1,zw⟩
      obtain⟨y,hy⟩:∃y,p.L9[j]? =o_ y:=⟨_,Kz zw⟩
      have cp:wr.cell? ⟨gs,j*2,n_⟩=o_ (i_ j_ y.id):=HP.I y hy;have j0:(0:Int)<=(j:Int):=zw
      have j1:(j:Int)<(p.L9.length:Int):=zw
      have wk:IntKind.i64.wrap (j:Int)=(j:Int):=Zca
      obtain⟨c,hc⟩:∃c,c=decide (y.id<x.id):=⟨_,rfl⟩
      have HV:=HX.I c (λ_=>Zct);have dp:decide (x.id<=y.id)= !c:=Zcg
      clear hy hk0 HX hc;cases c
      all_goals
       try simp only[Bool.not_false,Bool.not_true]at dp
       cases b
       all_goals
        go_wp2_with fail
        go_quiet ((first
         |(go_at_call_of 41 (x.id);exact L1 (kI.I _))))
        go_wp2
        first
         |(go_ret;exact⟨al (nk (HV.I.2 rfl)).symm,bd cy.I.2.2 _⟩)
         |(go_roundw;(case rel=>exact⟨k1,ZcO,ZcK,⟨HV.I.1 rfl,bd HA.I.2 _⟩⟩);(case measure=>simp[intOf];omega))
    .have i1:¬(k:Int)<(p.L9.length:Int):=zw
     have wm:da (aw (λx:aB=>x.id) ey 0 p.L9=true):=Zce
     clear HA HB hlt hk hsz hll;go_wp2_with fail;clear i1 m0 m1 m2 m3 m4 m5 m6 m7
     rename w_=>W1
     have HB:da (av W1 w.heap.size p/\af.At W1 p/\B_ w.heap.size w W1):=cy.I;clear cy
     go_loopw[6] (λi wr=>∃k:Nat,k<=p.ag.length/\i=i_ j_ k/\da (aw (λx:az=>x.id) cU 0 (p.ag.take k)=true/\B_ W1.heap.size W1 wr)) (λi _=>p.ag.length-(intOf i).toNat)
     case atStart=>exact Zdd
     case round=>
      obtain⟨k,hk,rfl,HA⟩:=hrel;have hsz:w.heap.size<wr.heap.size:=Kn (J2.1 HB.I.1).1 HA.I.2.size;have cy:da (av wr w.heap.size p/\af.At wr p/\B_ w.heap.size w wr):=⟨HB.I.1.below HA.I.2,HB.I.2.1.below HA.I.2,HB.I.2.2.trans (HA.I.2.mono HB.I.2.2.size)⟩
      obtain⟨m0,m1,m2,m3,m4,m5,m6,m7⟩:=cy.I.1.cells;have hll:=fl.I.short.ag;by_cases hlt:k<p.ag.length
      .as_aux_lemma=>
        have i0:(0:Int)<=(k:Int):=zw
        have i1:(k:Int)<(p.ag.length:Int):=zw
        obtain⟨x,hx⟩:∃x,p.ag[k]? =o_ x:=⟨_,Kz hlt⟩
        have hmem:=KA hx;obtain⟨gs,ha,hat⟩:=jr cy.I.2.1.2.2.2.1 hx;have hgs:gs<wr.heap.size:=Le hat.1;have HP:da (∀y,p.ag[k-1]? =o_ y->wr.cell? ⟨gs,(k-1)*3,n_⟩=o_ (i_ j_ y.id)):=λy hy=>by
         obtain⟨g2,ha2,g8⟩:=jr cy.I.2.1.2.2.2.1 hy;exact ZaT
        obtain⟨c0,c1,c2⟩:=hat;rw[ha]at m5;obtain⟨b,kI,lN⟩:=anx x.id 1 1000;obtain⟨b5,lE,H5⟩:=anW (fl.I.ag x hmem);obtain⟨s,hs⟩:∃s,x.shown=s:=⟨_,rfl⟩
        rw[hs]at c1;have H6:=aA hs;clear hs;obtain⟨t,ht,HT⟩:∃t,x.text.toList.isEmpty=t/\da (bI x.text=t):=⟨_,rfl,rfl⟩
        obtain⟨k1,hk1⟩:∃k1,da (k1=k+1):=⟨_,rfl⟩
        have HV:=λc hc=>alB (c:=c) (K:=(b5&&(s||t))) hk1.I HA.I.1 hx lN.I hc (by simp[cU,H5.I,H6.I,HT.I])
        have HX:=aA HV;clear hx ha hmem HB HV;by_cases hk0:k=0
        .have dk:decide (0<k)=false:=decide_eq_false zw
         have HV:=HX.I true (λe=>decide_eq_true Zcf);clear hk0 HX;rcases ch2 b b5 with rfl|⟨rfl,rfl⟩|⟨rfl,rfl⟩
         rotate_left 2;cases s;cases t
         all_goals
          go_wp2_with fail
          go_quiet ((first
           |(go_at_call_of 41 (x.id);exact L1 (kI.I _))
           |(go_at_call_of 113 (x.text);exact L1 (lE.I _))))
          go_wp2
          first
           |(go_ret;exact⟨al (fJ (HV.I.2 rfl)).symm,bd (cy.I.2.2.alloc cy.I.2.2.size _) _⟩)
           |(go_roundw;(case rel=>exact⟨k1,ZcO,ZcK,⟨HV.I.1 rfl,bd (HA.I.2.alloc HA.I.2.size _) _⟩⟩);(case measure=>simp[intOf];omega))
        obtain⟨j,rfl⟩:∃j,k=j+1:=⟨k-1,zw⟩
        obtain⟨y,hy⟩:∃y,p.ag[j]? =o_ y:=⟨_,Kz zw⟩
        have cp:wr.cell? ⟨gs,j*3,n_⟩=o_ (i_ j_ y.id):=HP.I y hy;have j0:(0:Int)<=(j:Int):=zw
        have j1:(j:Int)<(p.ag.length:Int):=zw
        have wk:IntKind.i64.wrap (j:Int)=(j:Int):=Zca
        obtain⟨c,hc⟩:∃c,c=decide (y.id<x.id):=⟨_,rfl⟩
        have HV:=HX.I c (λ_=>Zct);have dp:decide (x.id<=y.id)= !c:=Zcg
        clear hy hk0 HX hc;cases c
        all_goals
         try simp only[Bool.not_false,Bool.not_true]at dp
         rcases ch2 b b5 with rfl|⟨rfl,rfl⟩|⟨rfl,rfl⟩
         rotate_left 2;cases s;cases t
         all_goals
          go_wp2_with fail
          go_quiet ((first
           |(go_at_call_of 41 (x.id);exact L1 (kI.I _))
           |(go_at_call_of 113 (x.text);exact L1 (lE.I _))))
          go_wp2
          first
           |(go_ret;exact⟨al (fJ (HV.I.2 rfl)).symm,bd (cy.I.2.2.alloc cy.I.2.2.size _) _⟩)
           |(go_roundw;(case rel=>exact⟨k1,ZcO,ZcK,⟨HV.I.1 rfl,bd (HA.I.2.alloc HA.I.2.size _) _⟩⟩);(case measure=>simp[intOf];omega))
      .have i1:¬(k:Int)<(p.ag.length:Int):=zw
       have xD:da (aw (λx:az=>x.id) cU 0 p.ag=true):=Zce
       clear HA HB hlt hk hsz hll;go_wp2_with fail;clear i1 m0 m1 m2 m3 m4 m5 m6 m7
       rename w_=>W2
       have HB:da (av W2 w.heap.size p/\af.At W2 p/\B_ w.heap.size w W2):=cy.I;clear cy
       go_loopw[8] (λi wr=>∃k:Nat,k<=p.ae.length/\i=i_ j_ k/\da (aw (λx:au=>x.id) (λx:au=>ct x.toci) 0 (p.ae.take k)=true/\B_ W2.heap.size W2 wr)) (λi _=>p.ae.length-(intOf i).toNat)
       case atStart=>exact Zdd
       case round=>
        obtain⟨k,hk,rfl,HA⟩:=hrel;have hsz:w.heap.size<wr.heap.size:=Kn (J2.1 HB.I.1).1 HA.I.2.size;have cy:da (av wr w.heap.size p/\af.At wr p/\B_ w.heap.size w wr):=⟨HB.I.1.below HA.I.2,HB.I.2.1.below HA.I.2,HB.I.2.2.trans (HA.I.2.mono HB.I.2.2.size)⟩
        obtain⟨m0,m1,m2,m3,m4,m5,m6,m7⟩:=cy.I.1.cells;have hll:=fl.I.short.ae;by_cases hlt:k<p.ae.length
        .as_aux_lemma=>
          have i0:(0:Int)<=(k:Int):=zw
          have i1:(k:Int)<(p.ae.length:Int):=zw
          obtain⟨x,hx⟩:∃x,p.ae[k]? =o_ x:=⟨_,Kz hlt⟩
          have hmem:=KA hx;obtain⟨gs,ha,hat⟩:=iA cy.I.2.1.2.2.2.2.1 hx;have hgs:gs<wr.heap.size:=Le hat.1;have HP:da (∀y,p.ae[k-1]? =o_ y->wr.cell? ⟨gs,(k-1)*3,n_⟩=o_ (i_ j_ y.id)):=λy hy=>by
           obtain⟨g2,ha2,g8⟩:=iA cy.I.2.1.2.2.2.2.1 hy;exact ZaT
          obtain⟨c0,c1,c2⟩:=hat;rw[ha]at m6;obtain⟨b,kI,lN⟩:=anx x.id 1 1000;obtain⟨b5,lE,H5⟩:=anx x.max 1 5;obtain⟨t,uE,HT⟩:=anI x.aq x.max (⟨(fl.I.ae x hmem).1,(fl.I.ae x hmem).2,lj cy.I.2.1.2.2.2.2.1 hx⟩:fT wr x.ak x.Ma);obtain⟨k1,hk1⟩:∃k1,da (k1=k+1):=⟨_,rfl⟩
          have HV:=λc hc=>alB (c:=c) (K:=(b5&&t)) hk1.I HA.I.1 hx lN.I hc (by simp[ct,H5.I,HT.I])
          have HX:=aA HV;clear hx ha hmem HB HV;by_cases hk0:k=0
          .have dk:decide (0<k)=false:=decide_eq_false zw
           have HV:=HX.I true (λe=>decide_eq_true Zcf);clear hk0 HX;rcases ch2 b b5 with rfl|⟨rfl,rfl⟩|⟨rfl,rfl⟩
           rotate_left 2;cases t
           all_goals
            go_wp2_with fail
            go_quiet ((first
             |(go_at_call_of 114 (x.Ma.length);exact L1 (uE.I _ _))
             |(go_at_call_of 41 (x.id);exact L1 (kI.I _))
             |(go_at_call_of 41 (x.max);exact L1 (lE.I _))))
            go_wp2
            first
             |(go_ret;exact⟨al (fv (HV.I.2 rfl)).symm,bd (cy.I.2.2.alloc cy.I.2.2.size _) _⟩)
             |(go_roundw;(case rel=>exact⟨k1,ZcO,ZcK,⟨HV.I.1 rfl,bd (HA.I.2.alloc HA.I.2.size _) _⟩⟩);(case measure=>simp[intOf];omega))
          obtain⟨j,rfl⟩:∃j,k=j+1:=⟨k-1,zw⟩
          obtain⟨y,hy⟩:∃y,p.ae[j]? =o_ y:=⟨_,Kz zw⟩
          have cp:wr.cell? ⟨gs,j*3,n_⟩=o_ (i_ j_ y.id):=HP.I y hy;have j0:(0:Int)<=(j:Int):=zw
          have j1:(j:Int)<(p.ae.length:Int):=zw
          have wk:IntKind.i64.wrap (j:Int)=(j:Int):=Zca
          obtain⟨c,hc⟩:∃c,c=decide (y.id<x.id):=⟨_,rfl⟩
          have HV:=HX.I c (λ_=>Zct);have dp:decide (x.id<=y.id)= !c:=Zcg
          clear hy hk0 HX hc;cases c
          all_goals
           try simp only[Bool.not_false,Bool.not_true]at dp
           rcases ch2 b b5 with rfl|⟨rfl,rfl⟩|⟨rfl,rfl⟩
           rotate_left 2;cases t
           all_goals
            go_wp2_with fail
            go_quiet ((first
             |(go_at_call_of 114 (x.Ma.length);exact L1 (uE.I _ _))
             |(go_at_call_of 41 (x.id);exact L1 (kI.I _))
             |(go_at_call_of 41 (x.max);exact L1 (lE.I _))))
            go_wp2
            first
             |(go_ret;exact⟨al (fv (HV.I.2 rfl)).symm,bd (cy.I.2.2.alloc cy.I.2.2.size _) _⟩)
             |(go_roundw;(case rel=>exact⟨k1,ZcO,ZcK,⟨HV.I.1 rfl,bd (HA.I.2.alloc HA.I.2.size _) _⟩⟩);(case measure=>simp[intOf];omega))
        .have i1:¬(k:Int)<(p.ae.length:Int):=zw
         have Fz:da (aw (λx:au=>x.id) (λx=>ct x.toci) 0 p.ae=true):=Zce
         clear HA HB hlt hk hsz hll;go_wp2_with fail;clear i1 m0 m1 m2 m3 m4 m5 m6 m7
         rename w_=>W3
         have HB:da (av W3 w.heap.size p/\af.At W3 p/\B_ w.heap.size w W3):=cy.I;clear cy
         go_loopw[10] (λi wr=>∃k:Nat,k<=p.ai.length/\i=i_ j_ k/\da (aw (λx:aM=>x.id) (λx:aM=>dj x.todS) 0 (p.ai.take k)=true/\B_ W3.heap.size W3 wr)) (λi _=>p.ai.length-(intOf i).toNat)
         case atStart=>exact Zdd
         case round=>
          obtain⟨k,hk,rfl,HA⟩:=hrel;have hsz:w.heap.size<wr.heap.size:=Kn (J2.1 HB.I.1).1 HA.I.2.size;have cy:da (av wr w.heap.size p/\af.At wr p/\B_ w.heap.size w wr):=⟨HB.I.1.below HA.I.2,HB.I.2.1.below HA.I.2,HB.I.2.2.trans (HA.I.2.mono HB.I.2.2.size)⟩
          obtain⟨m0,m1,m2,m3,m4,m5,m6,m7⟩:=cy.I.1.cells;have hll:=fl.I.short.ai;by_cases hlt:k<p.ai.length
          .as_aux_lemma=>
            have i0:(0:Int)<=(k:Int):=zw
            have i1:(k:Int)<(p.ai.length:Int):=zw
            obtain⟨x,hx⟩:∃x,p.ai[k]? =o_ x:=⟨_,Kz hlt⟩
            have hmem:=KA hx;obtain⟨gs,ha,hat⟩:=lm cy.I.2.1.2.2.2.2.2 hx;have hgs:gs<wr.heap.size:=Le hat.1;have HP:da (∀y,p.ai[k-1]? =o_ y->wr.cell? ⟨gs,(k-1)*5,n_⟩=o_ (i_ j_ y.id)):=λy hy=>by
             obtain⟨g2,ha2,g8⟩:=lm cy.I.2.1.2.2.2.2.2 hy;exact ZaT
            obtain⟨c0,c1,c2,c3,c4⟩:=hat;rw[ha]at m7;obtain⟨b,kI,lN⟩:=anx x.id 1 1000;obtain⟨b5,lE,H5⟩:=anx x.max 1 5;obtain⟨t,uE,HT⟩:=anI x.aq x.max (⟨(fl.I.ai x hmem).1,(fl.I.ai x hmem).2,nJ cy.I.2.1.2.2.2.2.2 hx⟩:fT wr x.ak x.Ma);obtain⟨s,hs⟩:∃s,x.Mf=s:=⟨_,rfl⟩
            rw[hs]at c2;have H6:=aA hs;clear hs;obtain⟨u,hu,HU⟩:∃u,(x.max !=1)=u/\da (decide (x.max=1)= !u):=⟨_,rfl,aA (by simp[bne,Bool.beq_eq_decide_eq])⟩
            obtain⟨k1,hk1⟩:∃k1,da (k1=k+1):=⟨_,rfl⟩
            have HV:=λc hc=>alB (c:=c) (K:=(b5&&((s|| !u)&&t))) hk1.I HA.I.1 hx lN.I hc (by simp only[dj,H5.I,H6.I,HT.I,HU.I];cases b5<;>cases s<;>cases u<;>cases t<;>rfl)
            have HX:=aA HV;clear hx ha hmem HB HV;by_cases hk0:k=0
            .have dk:decide (0<k)=false:=decide_eq_false zw
             have HV:=HX.I true (λe=>decide_eq_true Zcf);clear hk0 HX;rcases ch2 b b5 with rfl|⟨rfl,rfl⟩|⟨rfl,rfl⟩
             rotate_left 2;cases s;cases u;cases t;rotate_left 2;rotate_left 1;cases t
             all_goals
              go_wp2_with fail
              go_quiet ((first
               |(go_at_call_of 114 (x.Ma.length);exact L1 (uE.I _ _))
               |(go_at_call_of 41 (x.id);exact L1 (kI.I _))
               |(go_at_call_of 41 (x.max);exact L1 (lE.I _))))
              go_wp2
              first
               |(go_ret;exact⟨al (eg (HV.I.2 rfl)).symm,bd (cy.I.2.2.alloc cy.I.2.2.size _) _⟩)
               |(go_roundw;(case rel=>exact⟨k1,ZcO,ZcK,⟨HV.I.1 rfl,bd (HA.I.2.alloc HA.I.2.size _) _⟩⟩);(case measure=>simp[intOf];omega))
            obtain⟨j,rfl⟩:∃j,k=j+1:=⟨k-1,zw⟩
            obtain⟨y,hy⟩:∃y,p.ai[j]? =o_ y:=⟨_,Kz zw⟩
            have cp:wr.cell? ⟨gs,j*5,n_⟩=o_ (i_ j_ y.id):=HP.I y hy;have j0:(0:Int)<=(j:Int):=zw
            have j1:(j:Int)<(p.ai.length:Int):=zw
            have wk:IntKind.i64.wrap (j:Int)=(j:Int):=Zca
            obtain⟨c,hc⟩:∃c,c=decide (y.id<x.id):=⟨_,rfl⟩
            have HV:=HX.I c (λ_=>Zct);have dp:decide (x.id<=y.id)= !c:=Zcg
            clear hy hk0 HX hc;cases c
            all_goals
             try simp only[Bool.not_false,Bool.not_true]at dp
             rcases ch2 b b5 with rfl|⟨rfl,rfl⟩|⟨rfl,rfl⟩
             rotate_left 2;cases s;cases u;cases t;rotate_left 2;rotate_left 1;cases t
             all_goals
              go_wp2_with fail
              go_quiet ((first
               |(go_at_call_of 114 (x.Ma.length);exact L1 (uE.I _ _))
               |(go_at_call_of 41 (x.id);exact L1 (kI.I _))
               |(go_at_call_of 41 (x.max);exact L1 (lE.I _))))
              go_wp2
              first
               |(go_ret;exact⟨al (eg (HV.I.2 rfl)).symm,bd (cy.I.2.2.alloc cy.I.2.2.size _) _⟩)
               |(go_roundw;(case rel=>exact⟨k1,ZcO,ZcK,⟨HV.I.1 rfl,bd (HA.I.2.alloc HA.I.2.size _) _⟩⟩);(case measure=>simp[intOf];omega))
          .have i1:¬(k:Int)<(p.ai.length:Int):=zw
           have FA:da (aw (λx:aM=>x.id) (λx=>dj x.todS) 0 p.ai=true):=Zce
           clear HA HB hlt hk hsz hll;have hs:=fl.I.short;have l0:=hs.aj;have l1:=hs.L9;have l2:=hs.ag;have l3:=hs.ae;have l4:=hs.ai;clear hs;cases d0:decide ((p.aj.length:Int)<=5)
           .have HN:da (bv p=false):=wP d0
            exact Zam
           cases d1:decide ((p.L9.length:Int)<=5)
           .have HN:da (bv p=false):=wS d1
            exact Zam
           cases d2:decide ((p.ag.length:Int)<=5)
           .have HN:da (bv p=false):=wL d2
            exact Zam
           cases d3:decide ((p.ae.length:Int)<=5)
           .have HN:da (bv p=false):=wJ d3
            exact Zam
           cases d4:decide ((p.ai.length:Int)<=5)
           .have HN:da (bv p=false):=wv d4
            exact Zam
           have HY:da (bv p=true):=yC Hz.I wm.I xD.I Fz.I FA.I d0 d1 d2 d3 d4;go_wp2;go_ret;exact⟨al HY.I.symm,cy.I.2.2⟩
end
section
attribute [local go_sem ↓] Kc Kd
def oQ (p:af)(x:ao):Bool:=cH x.toaD&&fF p.next x.toaD&&dG p.pure x.toaD
def rG (p:af)(x:ao):bh p.pure x.toaD=(cv x.id 1 1000&&oQ p x):=by
 show(cv x.id 1 1000&&cH x.toaD&&fF p.next x.toaD&&dG p.pure x.toaD)=_
 simp only[oQ,Bool.and_assoc]
def lR (l:List ao):Prop:=(l.map (·.RU)).Pairwise (λa b=>¬(a=b/\0<b))
def uU {l:List ao}{k:Nat}{x:ao}(hx:l[k]? =o_ x)(h:lR (l.take k))(hn:∀m y,m<k->l[m]? =o_ y->¬(y.RU=x.RU/\0<x.RU)):lR (l.take (k+1)):=by
 rw[cj hx];unfold lR;rw[Kl,List.pairwise_append];refine⟨h,List.pairwise_singleton _ _,λa ha b hb=>?_⟩;simp only[Lt,QV,Kt,Ku,or_false]at hb;subst hb;obtain⟨y,hy,rfl⟩:=Lr.1 ha;obtain⟨m,hm⟩:=List.mem_iff_getElem?.1 hy;rw[QW]at hm
 split at hm
 .rename_i hlt
  exact hn m y hlt hm
 .cases hm
def xn {l:List ao}{i m:Nat}{x y:ao}(hx:l[i]? =o_ x)(hy:l[m]? =o_ y)(hm:m<i)(h:y.RU=x.RU/\0<x.RU):¬lR l:=λha=>by
 unfold lR at ha;rw[Qm,P8]at ha;obtain⟨hi,rfl⟩:=Lj.1 hx;obtain⟨hj,rfl⟩:=Lj.1 hy;exact ha m i hj hi hm h
def jk (p:af):aQ p.pure↔(cv p.id 1 6=true/\cv p.next 1 1000000000=true/\p.L8.length<=6/\bv p=true/\aw (λx:ao=>x.id) (oQ p) 0 p.L8=true/\lR p.L8):=by
 have e1:aw (·.id) (λx=>cH x&&fF p.pure.next x&&dG p.pure x) 0 p.pure.L8=aw (λx:ao=>x.id) (oQ p) 0 p.L8:=jL _ _ _ _ _;have e2:p.pure.L8.length=p.L8.length:=ZdN
 have e3:aw (·.id) ct 0 p.pure.ae=aw (λx:au=>x.id) (λx=>ct x.toci) 0 p.ae:=jL _ _ _ _ _;have e4:aw (·.id) dj 0 p.pure.ai=aw (λx:aM=>x.id) (λx=>dj x.todS) 0 p.ai:=jL _ _ _ _ _;have e5:p.pure.ae.length=p.ae.length:=ZdN
 have e6:p.pure.ai.length=p.ai.length:=ZdN
 have e7:rb p.pure.L8↔lR p.L8:=by
  unfold rb lR
  show(((p.L8.map (·.toaD))).map (·.RU)).Pairwise _↔_
  rw[Lv];rfl
 constructor
 .intro h
  have hp:=h.L8;rw[e1]at hp;have hb:=h.ae;rw[e3]at hb;have hq:=h.ai;rw[e4]at hq;have n1:=h.dl;have n2:=h.cb;have n3:=h.dH;rw[e2]at n1;rw[e5]at n2;rw[e6]at n3;have hs:aw (λx:bD=>x.id) gw 0 p.aj=true:=h.aj;have he:aw (λx:aB=>x.id) ey 0 p.L9=true:=h.L9;have hd:aw (λx:az=>x.id) cU 0 p.ag=true:=h.ag;have l1:p.aj.length<=5:=h.fx;have l2:p.L9.length<=5:=h.cD;have l3:p.ag.length<=5:=h.cC;refine⟨h.id,h.next,n1,?_,hp,e7.1 h.apart⟩;simp only[bv,hs,he,hd,hb,hq,decide_eq_true l1,decide_eq_true l2,decide_eq_true l3,decide_eq_true n2,decide_eq_true n3,Bool.and_self]
 .rintro ⟨h1,h2,h3,h4,h5,h6⟩
  simp only[bv,J7,decide_eq_true_eq]at h4;obtain⟨⟨⟨⟨⟨⟨⟨⟨⟨t1,t2⟩,t3⟩,t4⟩,t5⟩,d1⟩,d2⟩,d3⟩,d4⟩,d5⟩:=h4;exact⟨h1,h2,by rw[e2];exact h3,d1,d2,d3,by rw[e5];exact d4,by rw[e6];exact d5,by rw[e1];exact h5,t1,t2,t3,by rw[e3];exact t4,by rw[e4];exact t5,e7.2 h6⟩
def zX (w:w_)(p:af)(x:ao)(gs k:Nat)(pre:w_->Prop)(w':w_):Prop:=((w'.cell? ⟨w.heap.size,0,n_⟩=o_ (i_ j_ p.id)/\w'.cell? ⟨w.heap.size,1,n_⟩=o_ (i_ j_ p.next)/\w'.cell? ⟨w.heap.size,2,n_⟩=o_ (s_ (o_ ⟨gs,0,n_⟩) p.L8.length p.aW)/\w'.cell? ⟨w.heap.size,3,n_⟩=o_ (s_ p.bc p.aj.length p.bF)/\w'.cell? ⟨w.heap.size,4,n_⟩=o_ (s_ p.ay p.L9.length p.aO)/\w'.cell? ⟨w.heap.size,5,n_⟩=o_ (s_ p.ax p.ag.length p.aP)/\w'.cell? ⟨w.heap.size,6,n_⟩=o_ (s_ p.am p.ae.length p.aG)/\w'.cell? ⟨w.heap.size,7,n_⟩=o_ (s_ p.aK p.ai.length p.aV))/\(w'.cell? ⟨gs,k*12,n_⟩=o_ (i_ j_ x.id)/\w'.cell? ⟨gs,k*12+1,n_⟩=o_ (i_ j_ x.RX)/\w'.cell? ⟨gs,k*12+2,n_⟩=o_ (s_ x.aY x.prog.length x.bH)/\w'.cell? ⟨gs,k*12+3,n_⟩=o_ (i_ j_ x.Md)/\w'.cell? ⟨gs,k*12+4,n_⟩=o_ (i_ j_ x.pc)/\w'.cell? ⟨gs,k*12+5,n_⟩=o_ (i_ j_ x.left)/\w'.cell? ⟨gs,k*12+6,n_⟩=o_ (i_ j_ x.Mg)/\w'.cell? ⟨gs,k*12+7,n_⟩=o_ (i_ j_ x.on)/\w'.cell? ⟨gs,k*12+8,n_⟩=o_ (t_ x.held)/\w'.cell? ⟨gs,k*12+9,n_⟩=o_ (t_ x.got)/\w'.cell? ⟨gs,k*12+10,n_⟩=o_ (i_ j_ x.code)/\w'.cell? ⟨gs,k*12+11,n_⟩=o_ (i_ j_ x.RU))/\pre w')/\da (av w' w.heap.size p/\af.At w' p/\B_ w.heap.size w w')
def kQ {w w':w_}{p:af}{x:ao}{gs k:Nat}{pre:w_->Prop}(ha:p.aN=o_ ⟨gs,0,n_⟩)(hx:p.L8[k]? =o_ x)(h:av w' w.heap.size p/\af.At w' p/\B_ w.heap.size w w')(hp:pre w'):zX w p x gs k pre w':=by
 refine⟨⟨?_,?_,hp⟩,h⟩
 .have:=h.1.cells
  rw[ha]at this;exact this
 .obtain ⟨g,e,hat⟩:=cn h.2.1.1 hx
  rw[ha]at e;cases e;exact hat
def rk (gs j:Nat)(y:ao)(w':w_):Prop:=w'.cell? ⟨gs,j*12,n_⟩=o_ (i_ j_ y.id)
def rh {w':w_}{p:af}{gs j:Nat}{y:ao}(ha:p.aN=o_ ⟨gs,0,n_⟩)(hy:p.L8[j]? =o_ y)(h:af.At w' p):rk gs j y w':=by
 obtain⟨g,e,hat⟩:=cn h.1 hy;rw[ha]at e;cases e;exact hat.1
def eV (p:af)(w:w_)(hf:p.Fit)(hs:∀x∈p.L8,x.dX)(h:af.At w p):
  k_ J3 43 #[a_ p.cells] w λe w'=>e=r_ (b_ (bK p.pure))/\B_ w.heap.size w w':=by
 have HB:da (av (w.alloc (c_ p.cells 46)) w.heap.size p/\af.At (w.alloc (c_ p.cells 46)) p/\B_ w.heap.size w (w.alloc (c_ p.cells 46))):=⟨Kj _ _,h.below ((Kp _ _).alloc (Ki _) _),(Kp _ _).alloc (Ki _) _⟩
 have fl:da (p.Fit/\∀x∈p.L8,x.dX):=⟨hf,hs⟩
 have hpl:=hf.short.L8;clear h hf hs;obtain⟨m0,m1,m2,m3,m4,m5,m6,m7⟩:=HB.I.1.cells;unfold af.cells at*
 go_enter func43,ntmps43
 go_wp2_with fail;generalize w.alloc (c_ p.row 46)=W at*;refine(dx p.id 1 6 _).mono ?_;rintro e w9 ⟨rfl,mW⟩;rw[mW];clear mW w9;cases h1:cv p.id 1 6
 .have hz:True:=trivial
  have HN:da (bK p.pure=false):=dL λhr=>by have:=((jk p).1 hr).1;rw[h1]at this;cases this
  clear h1;exact Za7
 have H1:da (cv p.id 1 6=true):=h1;clear h1;go_wp2_with fail;refine(dx p.next 1 1000000000 _).mono ?_;rintro e w9 ⟨rfl,mW⟩;rw[mW];clear mW w9;cases h2:cv p.next 1 1000000000
 .have hz:True:=trivial
  have HN:da (bK p.pure=false):=dL λhr=>by have:=((jk p).1 hr).2.1;rw[h2]at this;cases this
  clear h2;exact Za7
 have H2:da (cv p.next 1 1000000000=true):=h2;clear h2;by_cases h3:(6:Int)<(p.L8.length:Int)
 .have hz:True:=trivial
  have HN:da (bK p.pure=false):=dL λhr=>by have:=((jk p).1 hr).2.2.1;omega
  exact Za7
 have H3:da (p.L8.length<=6):=by show p.L8.length<=6;omega
 go_wp2_with fail;refine(zI p W fl.I.1 HB.I.2.1).mono ?_;rintro e W1 ⟨rfl,hb1⟩;have fQ:da (av W1 w.heap.size p/\af.At W1 p/\B_ w.heap.size w W1):=⟨HB.I.1.below hb1,HB.I.2.1.below hb1,HB.I.2.2.trans (hb1.mono HB.I.2.2.size)⟩
 clear hb1 m0 m1 m2 m3 m4 m5 m6 m7 HB;cases h4:bv p
 .have hz:True:=trivial
  have HN:da (bK p.pure=false):=dL λhr=>by have:=((jk p).1 hr).2.2.2.1;rw[h4]at this;cases this
  clear h4;go_wp2;go_ret;exact⟨al HN.I.symm,fQ.I.2.2⟩
 have H4:da (bv p=true):=h4;clear h4;go_wp2_with fail
 go_loopw[3] (λi wr=>∃k:Nat,k<=p.L8.length/\i=i_ j_ k/\da (aw (λx:ao=>x.id) (oQ p) 0 (p.L8.take k)=true/\lR (p.L8.take k)/\B_ W1.heap.size W1 wr)) (λi _=>p.L8.length-(intOf i).toNat)
 case atStart=>exact⟨0,Ky _,rfl,⟨rfl,List.Pairwise.nil,Kp _ _⟩⟩
 case round=>
  obtain⟨k,hk,rfl,HA⟩:=hrel;have cy:da (av wr w.heap.size p/\af.At wr p/\B_ w.heap.size w wr):=⟨fQ.I.1.below HA.I.2.2,fQ.I.2.1.below HA.I.2.2,fQ.I.2.2.trans (HA.I.2.2.mono fQ.I.2.2.size)⟩
  obtain⟨m0,m1,m2,m3,m4,m5,m6,m7⟩:=cy.I.1.cells;by_cases hlt:k<p.L8.length
  .have i0:(0:Int)<=(k:Int):=zw
   have i1:(k:Int)<(p.L8.length:Int):=zw
   obtain⟨x,hx⟩:∃x,p.L8[k]? =o_ x:=⟨_,Kz hlt⟩
   have hmem:=KA hx;obtain⟨gs,ha,hat⟩:=cn cy.I.2.1.1 hx;have mR:da (p.aN=o_ ⟨gs,0,n_⟩/\p.L8[k]? =o_ x):=⟨ha,hx⟩
   have HXS:da (x.dX/\Row wr x.aY (fk.flat x.prog)):=⟨fl.I.2 x hmem,lA cy.I.2.1.1 hx⟩
   have Jf:da (1<=p.next/\p.next<=1000000000):=bz.1 H2.I;rw[ha]at m2;clear hx hmem ha hat;go_wp2_with fail;cases td:bh p.pure x.toaD
   .have HPO:da (bh p.pure x.toaD=false):=td
    have HN:da (bK p.pure=false):=dL λhr=>by have h9:=((jk p).1 hr).2.2.2.2.1;rw[bS mR.I.2 (λhh=>by have h8:=HPO.I;rw[rG,hh.1,hh.2.2]at h8;cases h8)]at h9;cases h9
    clear td m0 m1 m2 m3 m4 m5 m6 m7;refine aT (zX w p x gs k (λ_=>True)) ZbG (kQ mR.I.1 mR.I.2 ⟨cy.I.1,cy.I.2.1,cy.I.2.2.drew⟩ trivial) ?_
    iterate 6 (refine PI ?_ (hy:=λw0 hS0=>Zb9))
    refine cl (b_ false) 72 #[a_ (p.L6 gs),a_ x.row] ?_ ?_ ?_
    .intro w0 hS0
     obtain⟨⟨⟨q0,q1,q2,q3,q4,q5,q6,q7⟩,⟨x0,x1,x2,x3,x4,x5,x6,x7,x8,x9,x10,Dm⟩,hpre⟩,hH⟩:=hS0
     exact x_
    .intro w0 hS0
     have hq:=hS0.2.I;rw[show(Value.agg (p.L6 gs))=a_ p.cells by unfold af.cells;rw[mR.I.1]];refine(lk p x w0 fl.I.1.short HXS.I.1 Jf.I.1 Jf.I.2 hq.2.1 (lA hq.2.1.1 mR.I.2)).mono ?_;rintro e w2 ⟨rfl,hb2⟩;exact⟨al HPO.I,kQ mR.I.1 mR.I.2 ⟨hq.1.below hb2,hq.2.1.below hb2,hq.2.2.trans (hb2.mono hq.2.2.size)⟩ trivial⟩
    simp only[pt,sb,s0,s1]
    iterate 2 (refine PI ?_ (hy:=λw0 hS0=>Zb9))
    iterate 18 (refine nl ?_;simp only[pt,sb,s0,s1])
    (refine PI ?_ (hy:=λw0 hS0=>Zb9))
    refine bk ZbG ?_ _;intro w1 cm;have HZ:da (B_ w.heap.size w w1):=cm.2.I.2.2;clear cm;go_wp2;go_ret;exact⟨al HN.I.symm,HZ.I⟩
   have HPO:da (bh p.pure x.toaD=true):=td;have lN:da (cv x.id 1 1000=true/\oQ p x=true):=by have h8:=HPO.I;rw[rG,J7]at h8;exact h8
   clear td;by_cases hk0:k=0
   .have dk:decide (0<k)=false:=decide_eq_false zw
    have j6:da (bW (λx:ao=>x.id) 0 (p.L8.take k)<x.id):=by show _<_;rw[hk0,lx];have:=bz.1 lN.I.1;omega
    clear hk0 m0 m1 m2 m3 m4 m5 m6 m7;refine aT (λw'=>zX w p x gs k (λ_=>True) w'/\da (B_ wr.heap.size wr w')) ZbG ⟨kQ mR.I.1 mR.I.2 ⟨cy.I.1,cy.I.2.1,cy.I.2.2.drew⟩ trivial,(Kp _ _).drew⟩ ?_
    iterate 6 (refine PI ?_ (hy:=λw0 hS0=>Zb6))
    refine cl (b_ true) 72 #[a_ (p.L6 gs),a_ x.row] ?_ ?_ ?_
    .intro w0 hS0
     obtain⟨⟨⟨⟨q0,q1,q2,q3,q4,q5,q6,q7⟩,⟨x0,x1,x2,x3,x4,x5,x6,x7,x8,x9,x10,Dm⟩,hpre⟩,hH⟩,hH2⟩:=hS0
     exact x_
    .intro w0 hS0
     have hq:=hS0.1.2.I;rw[show(Value.agg (p.L6 gs))=a_ p.cells by unfold af.cells;rw[mR.I.1]];refine(lk p x w0 fl.I.1.short HXS.I.1 Jf.I.1 Jf.I.2 hq.2.1 (lA hq.2.1.1 mR.I.2)).mono ?_;rintro e w2 ⟨rfl,hb2⟩;exact⟨al HPO.I,kQ mR.I.1 mR.I.2 ⟨hq.1.below hb2,hq.2.1.below hb2,hq.2.2.trans (hb2.mono hq.2.2.size)⟩ trivial,hS0.2.I.trans (hb2.mono hS0.2.I.size)⟩
    simp only[pt,sb,s0,s1]
    iterate 5 (refine PI ?_ (hy:=λw0 hS0=>Zb6))
    iterate 14 (refine nl ?_;simp only[pt,sb,s0,s1])
    iterate 2 (refine PI ?_ (hy:=λw0 hS0=>Zb6))
    exact f_
   obtain⟨j,hj⟩:∃j,k=j+1:=⟨k-1,zw⟩
   obtain⟨y,hy⟩:∃y,p.L8[j]? =o_ y:=⟨_,Kz zw⟩
   have j0:(0:Int)<=(j:Int):=zw
   have j1:(j:Int)<(p.L8.length:Int):=zw
   have dk:decide (0<k)=true:=decide_eq_true zw;have wk:IntKind.i64.wrap ((k:Int)-1)=(j:Int):=Zca
   have wV:da (bW (λx:ao=>x.id) 0 (p.L8.take k)=y.id/\p.L8[j]? =o_ y):=⟨by rw[hj];exact eG hy 0,hy⟩
   clear hj hy hk0 m0 m1 m2 m3 m4 m5 m6 m7;by_cases hle:x.id<=y.id
   .have dp:decide (x.id<=y.id)=true:=decide_eq_true hle
    have HN:da (bK p.pure=false):=dL λhr=>by have h9:=((jk p).1 hr).2.2.2.2.1;rw[bS mR.I.2 (λhh=>by have h8:=hh.2.1;rw[wV.I.1]at h8;have h8:y.id<x.id:=h8;omega)]at h9;cases h9
    refine aT (λw'=>zX w p x gs k (rk gs j y) w'/\da (B_ wr.heap.size wr w')) ZbG ⟨kQ mR.I.1 mR.I.2 ⟨cy.I.1,cy.I.2.1,cy.I.2.2.drew⟩ (rh mR.I.1 wV.I.2 cy.I.2.1),(Kp _ _).drew⟩ ?_
    iterate 6 (refine PI ?_ (hy:=λw0 hS0=>ZbR))
    refine cl (b_ true) 72 #[a_ (p.L6 gs),a_ x.row] ?_ ?_ ?_
    .exact Zbv
    .exact y_
    simp only[pt,sb,s0,s1]
    iterate 21 (refine PI ?_ (hy:=λw0 hS0=>ZbR))
    refine bk ZbG ?_ _;intro w1 cm;have HZ:da (B_ w.heap.size w w1):=cm.1.2.I.2.2;clear cm;go_wp2;go_ret;exact⟨al HN.I.symm,HZ.I⟩
   have dp:decide (x.id<=y.id)=false:=decide_eq_false hle;have j6:da (bW (λx:ao=>x.id) 0 (p.L8.take k)<x.id):=by show _<_;rw[wV.I.1];show y.id<x.id;omega
   clear hle;refine aT (λw'=>zX w p x gs k (rk gs j y) w'/\da (B_ wr.heap.size wr w')) ZbG ⟨kQ mR.I.1 mR.I.2 ⟨cy.I.1,cy.I.2.1,cy.I.2.2.drew⟩ (rh mR.I.1 wV.I.2 cy.I.2.1),(Kp _ _).drew⟩ ?_
   iterate 6 (refine PI ?_ (hy:=λw0 hS0=>ZbR))
   refine cl (b_ true) 72 #[a_ (p.L6 gs),a_ x.row] ?_ ?_ ?_
   .exact Zbv
   .exact y_
   simp only[pt,sb,s0,s1]
   iterate 21 (refine PI ?_ (hy:=λw0 hS0=>ZbR))
   exact f_
  .have i1:¬(k:Int)<(p.L8.length:Int):=zw
   have ek:p.L8.take k=p.L8:=KF zw;have HY:da (bK p.pure=true):=fP ((jk p).2 ⟨H1.I,H2.I,H3.I,H4.I,by have:=HA.I.1;rwa[ek]at this,by have:=HA.I.2.1;rwa[ek]at this⟩);clear ek;go_wp2;go_ret;exact⟨al HY.I.symm,cy.I.2.2⟩
end
section
open Go.Maps
attribute [local go_sem ↓] Kc Kd
structure eA.Fit (k:eA):Prop where
 Ts:k.fn.length<=1048576
 sC:k.parts.length<=1048576
 w8:k.eC.length<=1048576
 win:∀j,-9223372036854775808<=sz k.fn j/\sz k.fn j<=9223372036854775807
 parts:∀p∈k.parts,p.Fit/\∀x∈p.L8,x.dX
def n0 (ps:List af)(part port:Int):Int:=match hP (·.id) part ps with
 |none=> -1
 |some p=>place (p.ai.map (·.id)) port 0
def Ua (k:eA)(id:Int)(w:w_)(hl:k.parts.length<=1048576)(h:eA.At w k):
  k_ J3 22 #[a_ k.row,i_ j_ id] w λe w'=>e=r_ (i_ j_ (place (k.parts.map (·.id)) id 0))/\B_ w.heap.size w w':=by
 have S:=aA (dr.first h);clear h
 go_enter func22,ntmps22
 go_wp2_with fail;generalize w.alloc (c_ k.row 30)=W at*;obtain⟨-,-,-,q,-⟩:=S.I.box.cells
 go_loop [5] (λi=>∃n:Nat,n<=k.parts.length/\i=i_ j_ n/\da (id∉(k.parts.map (·.id)).take n)) (λi=>k.parts.length-(Go.RowKit.intOf i).toNat)
 case atStart=>exact⟨0,Ky _,rfl,(by simp:id∉(k.parts.map (·.id)).take 0)⟩
 case round=>
  obtain⟨n,hn,rfl,HA⟩:=hrel;by_cases hlt:n<k.parts.length
  .have i0:(0:Int)<=(n:Int):=zw
   have i1:(n:Int)<(k.parts.length:Int):=zw
   obtain⟨x,hx⟩:∃x,k.parts[n]? =o_ x:=⟨_,Kz hlt⟩
   have HX:da ((k.parts.map (·.id))[n]? =o_ x.id):=by show _=_;rw[Kk,hx];rfl
   obtain⟨g,ha,hat,-⟩:=ic S.I.MT.parts hx;have c0:=hat.1;rw[ha]at q;clear hat hx;by_cases hc:x.id=id
   .have HC:da (x.id=id):=hc
    have h1:(x.id==id)=true:=by simp[hc]
    clear hc;go_wp2;go_ret;exact⟨ck (ku HA.I HX.I HC.I).symm,S.I.low⟩
   .have HC:da (¬x.id=id):=hc
    have h1:(x.id==id)=false:=by simp[hc]
    clear hc;go_wp2
    go_round
    case rel=>exact⟨n+1,zw,by go_num,nh HA.I HX.I HC.I⟩
    case measure=>exact ZbL
  .have i1:¬(n:Int)<(k.parts.length:Int):=zw
   go_wp2;go_ret;exact⟨ck (jg HA.I (by rw[KG];omega)).symm,S.I.low⟩
def TB (k:eA)(part port:Int)(w:w_)(hf:k.Fit)(h:eA.At w k):
  k_ J3 29 #[a_ k.row,i_ j_ part,i_ j_ port] w λe w'=>e=r_ (u_ #[i_ j_ (place (k.parts.map (·.id)) part 0),i_ j_ (n0 k.parts part port)])/\B_ w.heap.size w w':=by
 have S:=aA (dr.first h);have HF:=aA hf;clear h hf
 go_enter func29,ntmps29
 go_upto_region 1 with fail;generalize w.alloc (c_ k.row 30)=W at*;have Mb:=Ua k part W HF.I.sC S.I.MT;obtain⟨q0,q1,q2,q3,q4⟩:=S.I.box.cells;go_wp2_with fail;clear q0 q1 q2 q3 q4;refine Mb.mono ?_;clear Mb;rintro e W1 ⟨rfl,hb⟩;replace S:=aA (S.I.below hb);clear hb;rcases ua (num:=λx:af=>x.id) part k.parts 0 with⟨e1,e2⟩|⟨n,p,e1,hp,-,e2⟩
 .have HE:da (n0 k.parts part port= -1):=by show n0 _ _ _=_;unfold n0;rw[e2]
  rw[e1];have H1:=aA e1;clear e1 e2;go_wp2;go_ret2;exact⟨by rw[HE.I,H1.I];rfl,S.I.low⟩
 have HE:da (n0 k.parts part port=place (p.ai.map (·.id)) port 0):=by show n0 _ _ _=_;unfold n0;rw[e2]
 rw[Li]at e1;rw[e1];have H1:=aA e1;have hn:=(Lj.1 hp).1;have hl:=HF.I.sC;have i0:(0:Int)<=(n:Int):=zw
 have i1:(n:Int)<(k.parts.length:Int):=zw
 have i2:¬(n:Int)<0:=zw
 obtain⟨g,ha,⟨c0,c1,c2,c3,c4,c5,c6,c7⟩,hat⟩:=ic S.I.MT.parts hp;have Mb:=uV p port W1 (HF.I.parts p (KA hp)).1.short.ai hat;unfold af.cells at Mb;obtain⟨-,-,-,q3,-⟩:=S.I.box.cells;rw[ha]at q3;clear e1 e2 hp ha hat;go_wp2_with fail;clear c0 c1 c2 c3 c4 c5 c6 c7 q3;refine Mb.mono ?_;clear Mb;rintro e W2 ⟨rfl,hb⟩;replace S:=aA (S.I.below hb);clear hb;go_wp2;go_ret2;exact⟨by rw[HE.I,H1.I];rfl,S.I.low⟩
def Ty {k:eA}{part port:Int}(h:n0 k.parts part port<0):endP (k.parts.map (·.pure)) part port=n_:=by
 unfold n0 at h;have e:hP (·.id) part (k.parts.map (·.pure))=(hP (·.id) part k.parts).map (·.pure):=Ze3
 unfold endP;rw[e]
 split at h
 .rename_i h1
  rw[h1];rfl
 .rename_i p h1
  rw[h1]
  show hP (·.id) port p.pure.ai=n_
  have e2:hP (·.id) port p.pure.ai=(hP (·.id) port p.ai).map (·.todS):=Zeo
  rcases ua (num:=λx:aM=>x.id) port p.ai 0 with⟨-,h2⟩|⟨n,x,h2,-⟩
  .rw [e2,h2]
   rfl
  .rw [h2]at h
   omega
def Tw {k:eA}{part port:Int}(h:¬n0 k.parts part port<0):∃n p m x,place (k.parts.map (·.id)) part 0=(n:Nat)/\k.parts[n]? =o_ p/\p.id=part/\n0 k.parts part port=(m:Nat)/\p.ai[m]? =o_ x/\endP (k.parts.map (·.pure)) part port=o_ x.todS:=by
 have e:hP (·.id) part (k.parts.map (·.pure))=(hP (·.id) part k.parts).map (·.pure):=Ze3
 unfold n0 at h⊢;rcases ua (num:=λx:af=>x.id) part k.parts 0 with⟨-,e2⟩|⟨n,p,e1,hp,hi,e2⟩
 .rw [e2]at h
  exact absurd (show(-1:Int)<0 by decide) h
 .rw [e2]at h⊢
  rcases ua (num:=λx:aM=>x.id) port p.ai 0 with⟨h1,-⟩|⟨m,x,h1,h2,-,h3⟩
  .exact absurd (show place (p.ai.map (·.id)) port 0<0 by rw[h1];decide) h
  .rw [Li]at e1 h1
   refine⟨n,p,m,x,e1,hp,hi,h1,h2,?_⟩;unfold endP;rw[e,e2]
   show hP (·.id) port p.pure.ai=_
   have e4:hP (·.id) port p.pure.ai=(hP (·.id) port p.ai).map (·.todS):=Zeo
   rw[e4,h3];rfl
def Vx {ps:List aE}{c:eQ}{q r:dS}(h1:endP ps c.src c.ga=o_ q)(h2:endP ps c.dst c.hI=o_ r):pa ps c=(!decide (c.src=c.dst)&&q.I&& !r.I&&(q.Mf==r.Mf))/\zo ps c=q.Mf:=by
 unfold pa zo;rw[h1,h2];exact⟨rfl,rfl⟩
def Uu {ps:List aE}{c:eQ}(h:endP ps c.src c.ga=n_\/endP ps c.dst c.hI=n_):pa ps c=false:=by
 unfold pa;rcases h with h|h
 .rw [h]
 .rw [h]
  split<;>simp_all
def Td {l:List eQ}{i j:Nat}{d:eQ}(hd:l[i]? =o_ d)(h:i<j):d∈l.take j:=by
 have:(l.take j)[i]? =o_ d:=by rw[List.getElem?_take_of_lt h];exact hd
 exact KA this
def HJ {l:List eQ}{i:Nat}{d:eQ}{f:eQ->Bool}(hd:l[i]? =o_ d)(h:(l.take i).any f=false):(l.take (i+1)).any f=f d:=by
 rw[cj hd,List.any_append,h];simp
structure bA (w:w_)(X:Nat)(k:eA)(B:List (Nat×eQ))(W:w_):Prop where
 ks:dr w X k W
 box:∀x∈B,W.heap[x.1]? =o_ (c_ (nx x.2) 37)
section
variable {w W W2:w_}{X:Nat}{k:eA}{B:List (Nat×eQ)}{c:eQ}{y:Nat×eQ}
def bA.below (h:bA w X k B W)(hb:B_ W.heap.size W W2):bA w X k B W2:=⟨h.ks.below hb,λx hx=>(hb.block _ (J2.1 (h.box x hx)).1).trans (h.box x hx)⟩
def bA.put (h:bA w X k B W):bA w X k ((W.heap.size,c)::B) (W.alloc (c_ (nx c) 37)):=by
 have hz:B_ W.heap.size W (W.alloc (c_ (nx c) 37)):=(Kp _ _).alloc (Ki _) _;exact⟨(h.below hz).ks,λx hx=>(Kt.1 hx).elim (λe=>by rw[e];exact Kj _ _) ((h.below hz).box x)⟩
def bA.less (h:bA w X k (y::B) W):bA w X k B W:=⟨h.ks,λx hx=>h.box x (LB _ hx)⟩
def bA.cells (h:bA w X k B W){Y:Nat}(hy:(Y,c)∈B):W.cell? ⟨Y,0,n_⟩=o_ (i_ j_ c.src)/\W.cell? ⟨Y,1,n_⟩=o_ (i_ j_ c.ga)/\W.cell? ⟨Y,2,n_⟩=o_ (i_ j_ c.dst)/\W.cell? ⟨Y,3,n_⟩=o_ (i_ j_ c.hI):=by
 have h1:=h.box (Y,c) hy;simp[World.cell?,h1]
end
def m8 {k:kd}(h:¬(cv k.bE 0 500000000=true/\E4 k.major k.fn=true/\k.parts.length<=6/\k.eC.length<=10/\aw (·.id) bK 0 k.parts=true/\fA k.parts [] k.eC=true)):eP k=false:=by
 cases hb:eP k with
 |false=>rfl
 |true=>
  simp only[eP,J7,decide_eq_true_eq]at hb;exact absurd ⟨hb.1.1.1.1.1,hb.1.1.1.1.2,hb.1.1.1.2,hb.1.1.2,hb.1.2,hb.2⟩ h
def gx {k:eA}(h:fA k.pure.parts [] k.eC=false):eP k.pure=false:=m8 λhh=>by rw[show fA k.pure.parts [] k.pure.eC=false from h]at hh;cases hh.2.2.2.2.2
def Ui {k:kd}(h1:cv k.bE 0 500000000=true)(h2:E4 k.major k.fn=true)(h3:k.parts.length<=6)(h4:k.eC.length<=10)(h5:aw (·.id) bK 0 k.parts=true)(h6:fA k.parts [] k.eC=true):eP k=true:=by
 simp[eP,h1,h2,h3,h4,h5,h6]
def FO (k:eA)(g:Nat)(w:w_)(hf:k.Fit)(hg:k.vb=o_ ⟨g,0,n_⟩/\g<w.heap.size)(h:eA.At w k):
  k_ J3 21 #[a_ k.row] w λe w'=>e=r_ (b_ (eP k.pure))/\B_ w.heap.size w w':=by
 have S:=aA (dr.first h);have HF:=aA hf;have HG:=aA hg;have HW:da (lT (w.alloc (c_ k.row 30)) g k.fn.length (sz k.fn)):=Uq ZbI (by rw[<-hg.1];exact S.I.MT.fn);clear h hf hg
 go_enter func21,ntmps21
 go_upto_region 1 with fail;generalize w.alloc (c_ k.row 30)=W at*;obtain⟨q0,q1,q2,q3,q4⟩:=S.I.box.cells;rw[HG.I.1]at q2;go_wp2_with fail;refine(dx k.bE 0 500000000 _).mono ?_;rintro e w9 ⟨rfl,mW⟩;rw[mW];clear mW w9;cases h1:cv k.bE 0 500000000
 .have HN:da (eP k.pure=false):=m8 λhh=>by have:=hh.1;rw[show k.pure.bE=k.bE from rfl,h1]at this;cases this
  clear h1;exact ZaP
 have H1:=aA h1;clear h1;have Mb:=Tc k.major g k.fn.length k.Te (sz k.fn) W HF.I.Ts HF.I.win HW.I;go_wp2_with fail;refine Mb.mono ?_;clear Mb HW;clear q0 q1 q2 q3 q4;rintro e W1 ⟨rfl,hb⟩;replace S:=aA (S.I.below hb);clear hb;obtain⟨-,-,-,q3,q4⟩:=S.I.box.cells;cases h2:nn k.major k.fn.length (sz k.fn)
 .have HN:da (eP k.pure=false):=m8 λhh=>by have:=hh.2.1;rw[show E4 k.pure.major k.pure.fn=_ from h2]at this;cases this
  clear h2;exact ZaP
 have H2:da (E4 k.pure.major k.pure.fn=true):=h2;clear h2;by_cases h3:(6:Int)<(k.parts.length:Int)
 .have HN:da (eP k.pure=false):=m8 λhh=>by have:=hh.2.2.1;simp only[eA.pure,KG]at this;omega
  exact ZaP
 by_cases h4:(10:Int)<(k.eC.length:Int)
 .have HN:da (eP k.pure=false):=m8 λhh=>by have:=hh.2.2.2.1;simp only[eA.pure]at this;omega
  exact ZaP
 have H3:da (k.pure.parts.length<=6/\k.pure.eC.length<=10):=by show _/\_;simp only[eA.pure,KG];omega
 have hpl:=HF.I.sC;have hcl:=HF.I.w8;go_wp2_with fail;clear q3 q4 h3 h4
 go_loopw[3] (λi wr=>∃n:Nat,n<=k.parts.length/\i=i_ j_ n/\da (dr w w.heap.size k wr/\aw (·.id) bK 0 (k.pure.parts.take n)=true)) (λi _=>k.parts.length-(Go.RowKit.intOf i).toNat)
 case atStart=>exact⟨0,Ky _,rfl,S.I,rfl⟩
 case round=>
  clear S;obtain⟨n,hn,rfl,S⟩:=hrel;by_cases hlt:n<k.parts.length
  .skip
   have i0:(0:Int)<=(n:Int):=zw
   have i1:(n:Int)<(k.parts.length:Int):=zw
   obtain⟨p,hp⟩:∃p,k.parts[n]? =o_ p:=⟨_,Kz hlt⟩
   have HP:da (k.pure.parts[n]? =o_ p.pure):=by show(k.parts.map (·.pure))[n]? =_;rw[Kk,hp];rfl
   have Gh:=aA (HF.I.parts p (KA hp));obtain⟨gs,ha,-⟩:=ic S.I.1.MT.parts hp;have HC:da (∀W,dr w w.heap.size k W->W.cell? ⟨w.heap.size,3,n_⟩=o_ (s_ (o_ ⟨gs,0,n_⟩) k.parts.length k.sa)/\af.In W gs n p/\af.At W p):=λW h=>by
    obtain⟨-,-,-,q3,-⟩:=h.box.cells;obtain⟨g2,h1,h2,h3⟩:=ic h.MT.parts hp;cases ha.symm.trans h1;rw[ha]at q3;exact⟨q3,h2,h3⟩
   have HA:=aA ha;obtain⟨-,-,-,q3,-⟩:=S.I.1.box.cells;clear ha hp;go_upto_region 6 with fail;clear q3;refine aT (λW=>dr w w.heap.size k W) ZbG (S.I.1.below (Kp _ _).drew) ?_
   iterate 5 (refine yl (v:=?_) ?_ ?_;rotate_left;(intro w0 hS0;obtain⟨q3,⟨c0,c1,c2,c3,c4,c5,c6,c7⟩,-⟩:=HC.I w0 hS0;go_simp;try with_reducible rfl);simp only[pt,sb,s0,s1])
   refine cl (b_ (bK p.pure)) 43 #[a_ p.row] ?_ (λw0 h0=>(eV p w0 Gh.I.1 Gh.I.2 (HC.I w0 h0).2.2).mono λe w1 h=>⟨h.1,h0.below h.2⟩) ?_
   .intro w0 hS0
    go_simp
   simp only[pt,sb,s0,s1];cases hb:bK p.pure
   .have HN:da (eP k.pure=false):=m8 λhh=>by
     have h1:=bS (last:=0) HP.I (ok:=bK) (num:=λx:aE=>x.id) (λhh=>by rw[hb]at hh;cases hh.2.2);rw[h1]at hh;cases hh.2.2.2.2.1
    iterate 2 (refine yl (v:=?_) ?_ ?_;rotate_left;(intro w0 hS0;obtain⟨q3,⟨c0,c1,c2,c3,c4,c5,c6,c7⟩,-⟩:=HC.I w0 hS0;go_simp;try with_reducible rfl);simp only[pt,sb,s0,s1])
    iterate 18 (refine nl ?_;simp only[pt,sb,s0,s1])
    refine yl (v:=?_) ?_ ?_;rotate_left;(intro w0 hS0;obtain⟨q3,⟨c0,c1,c2,c3,c4,c5,c6,c7⟩,-⟩:=HC.I w0 hS0;go_simp;try with_reducible rfl);simp only[pt,sb,s0,s1];refine bk ZbG (λA3 NO=>?_) _;clear hb;go_wp2;go_ret;exact⟨al HN.I.symm,NO.low⟩
   have HB:=aA hb
   iterate 2 (refine yl (v:=?_) ?_ ?_;rotate_left;(intro w0 hS0;obtain⟨q3,⟨c0,c1,c2,c3,c4,c5,c6,c7⟩,-⟩:=HC.I w0 hS0;go_simp;try with_reducible rfl);simp only[pt,sb,s0,s1])
   have HI:da (cv p.pure.id 1 1000=true):=by have h1:=((ch _).1 hb).id;rw[bz]at h1;exact eB zw zw
   clear hb;by_cases hz:n=0
   .have z0:decide (0<n)=false:=decide_eq_false zw
    have HZ:=aA hz;clear hz
    iterate 3 (refine yl (v:=?_) ?_ ?_;rotate_left;(intro w0 hS0;obtain⟨q3,⟨c0,c1,c2,c3,c4,c5,c6,c7⟩,-⟩:=HC.I w0 hS0;go_simp;try with_reducible rfl);simp only[pt,sb,s0,s1])
    iterate 14 (refine nl ?_;simp only[pt,sb,s0,s1])
    iterate 2 (refine yl (v:=?_) ?_ ?_;rotate_left;(intro w0 hS0;obtain⟨q3,⟨c0,c1,c2,c3,c4,c5,c6,c7⟩,-⟩:=HC.I w0 hS0;go_simp;try with_reducible rfl);simp only[pt,sb,s0,s1])
    refine bk ZbG (λA3 NO=>?_) _;go_wp2;go_roundw
    case rel=>exact⟨n+1,zw,by go_num,NO,ed S.I.2 HP.I HI.I (by have:=bz.1 HI.I;rw[HZ.I];show(0:Int)<_;omega) HB.I⟩
    case measure=>exact ZbL
   obtain⟨m,hm⟩:∃m,n=m+1:=⟨n-1,zw⟩
   have z0:decide (0<n)=true:=decide_eq_true zw;have z1:IntKind.wrap j_ ((n:Int)-1)=(m:Int):=Zca
   have z2:IntKind.wrap j_ (m:Int)=(m:Int):=Zca
   have hmn:m<k.parts.length:=zw
   obtain⟨p2,hp2⟩:∃p2,k.parts[m]? =o_ p2:=⟨_,Kz hmn⟩
   have HP2:da (bW (λx:aE=>x.id) 0 (k.pure.parts.take n)=p2.id):=by rw[hm];exact eG (num:=λx:aE=>x.id) (show(k.parts.map (·.pure))[m]? =o_ p2.pure by rw[Kk,hp2];rfl) 0
   have HC2:da (∀W,dr w w.heap.size k W->W.cell? ⟨gs,m*8,n_⟩=o_ (i_ j_ p2.id)):=λW h=>by
    obtain⟨g2,h1,h2,-⟩:=ic h.MT.parts hp2;cases HA.I.symm.trans h1;exact h2.1
   clear hp2 hz hm
   iterate 3 (refine yl (v:=?_) ?_ ?_;rotate_left;(intro w0 hS0;obtain⟨q3,⟨c0,c1,c2,c3,c4,c5,c6,c7⟩,-⟩:=HC.I w0 hS0;go_simp;try with_reducible rfl);simp only[pt,sb,s0,s1])
   have j0:(0:Int)<=(m:Int):=zw
   have j1:(m:Int)<(k.parts.length:Int):=zw
   clear hmn;by_cases hi:p.id<=p2.id
   .iterate 16 (refine yl (v:=?_) ?_ ?_;rotate_left;(intro w0 hS0;obtain⟨q3,⟨c0,c1,c2,c3,c4,c5,c6,c7⟩,-⟩:=HC.I w0 hS0;have d0:=HC2.I w0 hS0;go_simp;try with_reducible rfl);try simp only[pt,sb,s0,s1])
    have HN:da (eP k.pure=false):=m8 λhh=>by
     have h1:=bS (last:=0) HP.I (ok:=bK) (num:=λx:aE=>x.id) (λhh=>by have h2:=hh.2.1;rw[HP2.I]at h2;have h3:p2.id<p.id:=h2;omega);rw[h1]at hh;cases hh.2.2.2.2.1
    refine bk ZbG (λA3 NO=>?_) _;go_wp2;go_ret;exact⟨al HN.I.symm,NO.low⟩
   iterate 16 (refine yl (v:=?_) ?_ ?_;rotate_left;(intro w0 hS0;obtain⟨q3,⟨c0,c1,c2,c3,c4,c5,c6,c7⟩,-⟩:=HC.I w0 hS0;have d0:=HC2.I w0 hS0;go_simp;try with_reducible rfl);try simp only[pt,sb,s0,s1])
   refine bk ZbG (λA3 NO=>?_) _;go_wp2;go_roundw
   case rel=>exact⟨n+1,zw,by go_num,NO,ed S.I.2 HP.I HI.I (by rw[HP2.I];show p2.id<p.id;omega) HB.I⟩
   case measure=>exact ZbL
  .have i1:¬(n:Int)<(k.parts.length:Int):=zw
   have HT:da (aw (·.id) bK 0 k.pure.parts=true):=by have h:=S.I.2;rwa[KF (by simp only[eA.pure,KG];omega)]at h
   replace S:=aA S.I.1;obtain⟨-,-,-,q3,-⟩:=S.I.box.cells;go_wp2_with fail;clear q3
   go_loopw[4] (λi wr=>∃n:Nat,n<=k.eC.length/\i=i_ j_ n/\da (bA w w.heap.size k [] wr/\fA k.pure.parts [] (k.eC.take n)=true)) (λi _=>k.eC.length-(Go.RowKit.intOf i).toNat)
   case atStart=>exact⟨0,Ky _,rfl,⟨S.I,zy⟩,rfl⟩
   case round=>
    clear S i1 hn;obtain⟨j,hj,rfl,S⟩:=hrel;by_cases hlt:j<k.eC.length
    .skip
     have i0:(0:Int)<=(j:Int):=zw
     have i1:(j:Int)<(k.eC.length:Int):=zw
     obtain⟨c,hc⟩:∃c,k.eC[j]? =o_ c:=⟨_,Kz hlt⟩
     have Vn:=aA hc;have HL:=aA S.I.2;replace S:=aA S.I.1;obtain⟨gc,ha,d0,d1,d2,d3⟩:=TH S.I.ks.MT.eC hc;have HGC:=aA ha;obtain⟨-,-,-,-,q4⟩:=S.I.ks.box.cells;rw[ha]at q4;clear ha hc;replace S:=aA (S.I.put (c:=c));go_upto_region 12 with fail;clear d0 d1 d2 d3 q4;generalize wr.alloc (c_ (nx c) 37)=W2 at*;generalize wr.heap.size=Y at*;have Mb:=TB k c.src c.ga _ HF.I S.I.ks.MT;obtain⟨q0,q1,q2,q3,q4⟩:=S.I.ks.box.cells;obtain⟨o0,o1,o2,o3⟩:=S.I.cells (Y:=Y) (c:=c) zy;go_wp2_with fail;clear q0 q1 q2 q3 q4 o0 o1 o2 o3;refine Mb.mono ?_;clear Mb;rintro e W3 ⟨rfl,hb⟩;replace S:=aA (S.I.below hb);clear hb;go_upto_region 13 with fail;have Mb:=TB k c.dst c.hI _ HF.I S.I.ks.MT;obtain⟨q0,q1,q2,q3,q4⟩:=S.I.ks.box.cells;obtain⟨o0,o1,o2,o3⟩:=S.I.cells (Y:=Y) (c:=c) zy;go_wp2_with fail;clear q0 q1 q2 q3 q4 o0 o1 o2 o3;refine Mb.mono ?_;clear Mb;rintro e W4 ⟨rfl,hb⟩;replace S:=aA (S.I.below hb);clear hb;go_upto_region 14 with fail;by_cases h1:n0 k.parts c.src c.ga<0
     .as_aux_lemma=>
      have HN:da (eP k.pure=false):=gx (kq Vn.I (.inl (Uu (.inl (Ty h1)))));replace h1:decide (n0 k.parts c.src c.ga<0)=true:=decide_eq_true h1;refine aT (λW=>bA w w.heap.size k [(Y,c)] W) ZbG (S.I.below (Kp _ _).drew) ?_
      iterate 3 (refine yl (v:=?_) ?_ ?_;rotate_left;(intro w0 hS0;go_simp;try with_reducible rfl);simp only[pt,sb,s0,s1])
      iterate 2 (refine nl ?_;simp only[pt,sb,s0,s1])
      iterate 2 (refine yl (v:=?_) ?_ ?_;rotate_left;(intro w0 hS0;go_simp;try with_reducible rfl);simp only[pt,sb,s0,s1])
      iterate 3 (refine nl ?_;simp only[pt,sb,s0,s1])
      iterate 2 (refine yl (v:=?_) ?_ ?_;rotate_left;(intro w0 hS0;go_simp;try with_reducible rfl);simp only[pt,sb,s0,s1])
      iterate 11 (refine nl ?_;simp only[pt,sb,s0,s1])
      iterate 2 (refine yl (v:=?_) ?_ ?_;rotate_left;(intro w0 hS0;go_simp;try with_reducible rfl);simp only[pt,sb,s0,s1])
      iterate 10 (refine nl ?_;simp only[pt,sb,s0,s1])
      iterate 2 (refine yl (v:=?_) ?_ ?_;rotate_left;(intro w0 hS0;go_simp;try with_reducible rfl);simp only[pt,sb,s0,s1])
      iterate 21 (refine nl ?_;simp only[pt,sb,s0,s1])
      iterate 1 (refine yl (v:=?_) ?_ ?_;rotate_left;(intro w0 hS0;go_simp;try with_reducible rfl);simp only[pt,sb,s0,s1])
      clear h1;exact FS
     by_cases h2:n0 k.parts c.dst c.hI<0
     .as_aux_lemma=>
      have HN:da (eP k.pure=false):=gx (kq Vn.I (.inl (Uu (.inr (Ty h2)))));replace h1:decide (n0 k.parts c.src c.ga<0)=false:=decide_eq_false h1;replace h2:decide (n0 k.parts c.dst c.hI<0)=true:=decide_eq_true h2;refine aT (λW=>bA w w.heap.size k [(Y,c)] W) ZbG (S.I.below (Kp _ _).drew) ?_
      iterate 7 (refine yl (v:=?_) ?_ ?_;rotate_left;(intro w0 hS0;go_simp;try with_reducible rfl);simp only[pt,sb,s0,s1])
      iterate 3 (refine nl ?_;simp only[pt,sb,s0,s1])
      iterate 2 (refine yl (v:=?_) ?_ ?_;rotate_left;(intro w0 hS0;go_simp;try with_reducible rfl);simp only[pt,sb,s0,s1])
      iterate 11 (refine nl ?_;simp only[pt,sb,s0,s1])
      iterate 2 (refine yl (v:=?_) ?_ ?_;rotate_left;(intro w0 hS0;go_simp;try with_reducible rfl);simp only[pt,sb,s0,s1])
      iterate 10 (refine nl ?_;simp only[pt,sb,s0,s1])
      iterate 2 (refine yl (v:=?_) ?_ ?_;rotate_left;(intro w0 hS0;go_simp;try with_reducible rfl);simp only[pt,sb,s0,s1])
      iterate 21 (refine nl ?_;simp only[pt,sb,s0,s1])
      iterate 1 (refine yl (v:=?_) ?_ ?_;rotate_left;(intro w0 hS0;go_simp;try with_reducible rfl);simp only[pt,sb,s0,s1])
      clear h1 h2;exact FS
     obtain⟨n1,p1,m1,x1,a1,hp1,pi1,b1,hx1,en1⟩:=Tw h1;obtain⟨n2,p2,m2,x2,a2,hp2,pi2,b2,hx2,en2⟩:=Tw h2;clear h1 h2;rw[a1,a2,b1,b2];obtain⟨dq,qk⟩:=Vx en1 en2;have HCK:da (pa k.pure.parts c=(!decide (c.src=c.dst)&&x1.I&& !x2.I&&(x1.Mf==x2.Mf))):=dq;have HQK:da (zo k.pure.parts c=x1.Mf):=qk;clear dq qk en1 en2;obtain⟨gs1,ha1,-,ht1⟩:=ic S.I.ks.MT.parts hp1;obtain⟨gp1,hb1,-⟩:=lm ht1.2.2.2.2.2 hx1;obtain⟨gs2,ha2,-,ht2⟩:=ic S.I.ks.MT.parts hp2;obtain⟨gp2,hb2,-⟩:=lm ht2.2.2.2.2.2 hx2;cases ha1.symm.trans ha2;have HR:da (∀(B:List (Nat×eQ))(W:w_),bA w w.heap.size k B W->W.cell? ⟨w.heap.size,3,n_⟩=o_ (s_ (o_ ⟨gs1,0,n_⟩) k.parts.length k.sa)/\W.cell? ⟨gs1,n1*8+7,n_⟩=o_ (s_ (o_ ⟨gp1,0,n_⟩) p1.ai.length p1.aV)/\W.cell? ⟨gs1,n2*8+7,n_⟩=o_ (s_ (o_ ⟨gp2,0,n_⟩) p2.ai.length p2.aV)/\W.cell? ⟨gp1,m1*5+1,n_⟩=o_ (b_ x1.I)/\W.cell? ⟨gp1,m1*5+2,n_⟩=o_ (b_ x1.Mf)/\W.cell? ⟨gp2,m2*5+1,n_⟩=o_ (b_ x2.I)/\W.cell? ⟨gp2,m2*5+2,n_⟩=o_ (b_ x2.Mf)):=λB W h=>by
      obtain⟨-,-,-,q3,-⟩:=h.ks.box.cells;obtain⟨g1,e1,f1,t1⟩:=ic h.ks.MT.parts hp1;obtain⟨g2,e2,f2,t2⟩:=ic h.ks.MT.parts hp2;cases ha1.symm.trans e1;cases ha1.symm.trans e2;obtain⟨u1,e3,r1⟩:=lm t1.2.2.2.2.2 hx1;obtain⟨u2,e4,r2⟩:=lm t2.2.2.2.2.2 hx2;cases hb1.symm.trans e3;cases hb2.symm.trans e4;have c1:=f1.2.2.2.2.2.2.2;have c2:=f2.2.2.2.2.2.2.2;rw[ha1]at q3;rw[hb1]at c1;rw[hb2]at c2;exact⟨q3,c1,c2,r1.2.1,r1.2.2.1,r2.2.1,r2.2.2.1⟩
     have ln1:=(Lj.1 hp1).1;have lm1:=(Lj.1 hx1).1;have lp1:=(HF.I.parts p1 (KA hp1)).1.short.ai;have j1:(0:Int)<=(n1:Int):=zw
     have k1:(n1:Int)<(k.parts.length:Int):=zw
     have y1:(0:Int)<=(m1:Int):=zw
     have z1:(m1:Int)<(p1.ai.length:Int):=zw
     have u1:decide ((m1:Int)<0)=false:=decide_eq_false zw;have ln2:=(Lj.1 hp2).1;have lm2:=(Lj.1 hx2).1;have lp2:=(HF.I.parts p2 (KA hp2)).1.short.ai;have j2:(0:Int)<=(n2:Int):=zw
     have k2:(n2:Int)<(k.parts.length:Int):=zw
     have y2:(0:Int)<=(m2:Int):=zw
     have z2:(m2:Int)<(p2.ai.length:Int):=zw
     have u2:decide ((m2:Int)<0)=false:=decide_eq_false zw;have HAB:da ((n1=n2)↔c.src=c.dst):=by
      constructor
      .intro e;subst e;rw[hp1]at hp2;cases hp2;exact pi1.symm.trans pi2
      .intro e;rw[e]at a1;omega
     clear hp1 hp2 hx1 hx2 ha1 hb1 hb2 ht1 ht2 a1 a2 b1 b2 pi1 pi2 ln1 ln2 lm1 lm2 lp1 lp2;refine aT (λW=>bA w w.heap.size k [(Y,c)] W) ZbG (S.I.below (Kp _ _).drew) ?_
     iterate 12 (refine yl (v:=?_) ?_ ?_;rotate_left;(intro w0 hS0;obtain⟨q3,g1,g2,g3,g4,g5,g6⟩:=HR.I _ w0 hS0;go_simp;try with_reducible rfl);simp only[pt,sb,s0,s1])
     cases w9:((n1:Int)==(n2:Int))
     case true=>
      as_aux_lemma=>
       have hab:n1=n2:=by simp only[beq_iff_eq]at w9;omega
       have HN:da (eP k.pure=false):=gx (kq Vn.I (.inl (HCK.I.trans (by simp[HAB.I.1 hab]))));clear hab
       iterate 11 (refine nl ?_;simp only[pt,sb,s0,s1])
       iterate 2 (refine yl (v:=?_) ?_ ?_;rotate_left;(intro w0 hS0;obtain⟨q3,g1,g2,g3,g4,g5,g6⟩:=HR.I _ w0 hS0;go_simp;try with_reducible rfl);simp only[pt,sb,s0,s1])
       exact Zbq
     have HNE:da (¬c.src=c.dst):=λe=>by have h:=HAB.I.2 e;simp[h]at w9
     iterate 13 (refine yl (v:=?_) ?_ ?_;rotate_left;(intro w0 hS0;obtain⟨q3,g1,g2,g3,g4,g5,g6⟩:=HR.I _ w0 hS0;go_simp;try with_reducible rfl);simp only[pt,sb,s0,s1])
     cases b1:x1.I
     case false=>
      as_aux_lemma=>
       have HN:da (eP k.pure=false):=gx (kq Vn.I (.inl (HCK.I.trans (by simp[b1]))))
       exact Zbq
     iterate 12 (refine yl (v:=?_) ?_ ?_;rotate_left;(intro w0 hS0;obtain⟨q3,g1,g2,g3,g4,g5,g6⟩:=HR.I _ w0 hS0;go_simp;try with_reducible rfl);simp only[pt,sb,s0,s1])
     cases b2:x2.I
     case true=>
      as_aux_lemma=>
       have HN:da (eP k.pure=false):=gx (kq Vn.I (.inl (HCK.I.trans (by simp[b2]))))
       exact qr
     iterate 22 (refine yl (v:=?_) ?_ ?_;rotate_left;(intro w0 hS0;obtain⟨q3,g1,g2,g3,g4,g5,g6⟩:=HR.I _ w0 hS0;go_simp;try with_reducible rfl);simp only[pt,sb,s0,s1])
     refine bk ZbG (λA3 NO=>?_) _;replace S:=aA NO;clear NO;cases b3:(x1.Mf==x2.Mf)
     case false=>
      as_aux_lemma=>
       have HN:da (eP k.pure=false):=gx (kq Vn.I (.inl (HCK.I.trans (by simp[b3]))));go_wp2;go_ret;exact⟨al HN.I.symm,S.I.ks.low⟩
     have HOK:da (pa k.pure.parts c=true):=HCK.I.trans (by have h:=HNE.I;simp[b1,b2,b3,h])
     as_aux_lemma=>
       clear b1 b2 b3 u1 u2 w9;go_wp2_with fail
       go_loopw[10] (λi wr=>∃n:Nat,n<=j/\i=i_ j_ n/\da (bA w w.heap.size k [(Y,c)] wr/\(k.eC.take n).any (hR k.pure.parts c)=false)) (λi _=>j-(Go.RowKit.intOf i).toNat)
       case atStart=>exact⟨0,Ky _,rfl,S.I,zy⟩
       case round=>
        clear S;obtain⟨n,hn,rfl,S⟩:=hrel;have HA:=aA S.I.2;replace S:=aA S.I.1;by_cases sR:n<j
        .skip
         have v0:(0:Int)<=(n:Int):=zw
         have v1:(n:Int)<(j:Int):=zw
         have v2:(n:Int)<(k.eC.length:Int):=zw
         obtain⟨d,hd⟩:∃d,k.eC[n]? =o_ d:=⟨_,Kz zw⟩
         have Vp:=aA hd;obtain⟨g5,ha,d0,d1,d2,d3⟩:=TH S.I.ks.MT.eC hd;cases HGC.I.symm.trans ha;obtain⟨-,-,-,-,q4⟩:=S.I.ks.box.cells;rw[ha]at q4;clear ha hd;replace S:=aA (S.I.put (c:=d));go_upto_region 20 with fail;clear d0 d1 d2 d3 q4 v0 v2;generalize wr.alloc (c_ (nx d) 37)=W5 at*;generalize wr.heap.size=Z at*;obtain⟨o0,o1,o2,o3⟩:=S.I.cells (Y:=Y) (c:=c) zy;obtain⟨r0,r1,r2,r3⟩:=S.I.cells (Y:=Z) (c:=d) zy;obtain⟨q3,g1,-,-,g4,-,-⟩:=HR.I _ _ S.I;have VB:da (hR k.pure.parts c d=(decide (d.dst=c.dst)&&decide (d.hI=c.hI)||decide (d.src=c.src)&&decide (d.ga=c.ga)&&x1.Mf)):=by show hR _ _ _=_;unfold hR;rw[HQK.I]
         cases h1:(d.dst==c.dst)
         case true=>
          have h1q:d.dst=c.dst:=Zfh
          cases h2:(d.hI==c.hI)
          case true=>
           have h2q:d.hI=c.hI:=by simpa using h2
           have HN:da (eP k.pure=false):=gx (kq (ps:=k.pure.parts) Vn.I (.inr (aev.2 ⟨d,Td Vp.I sR,VB.I.trans Zfm⟩)));go_wp2;go_ret;exact⟨al HN.I.symm,S.I.ks.low⟩
          case false=>
           have h2q:¬d.hI=c.hI:=by simpa using h2
           exact ir
         case false=>
          have h1q:¬d.dst=c.dst:=Zfh
          exact ir
        .have v1:¬(n:Int)<(j:Int):=zw
         have e:n=j:=zw
         have HM:da (fA k.pure.parts [] (k.eC.take (j+1))=true):=Tz HL.I Vn.I HOK.I (by rw[<-e];exact HA.I);clear e;go_wp2;go_roundw
         case rel=>exact⟨j+1,zw,by go_num,S.I.less,HM.I⟩
         case measure=>exact ZbL
    .have i1:¬(j:Int)<(k.eC.length:Int):=zw
     have HY:da (eP k.pure=true):=Ui H1.I H2.I H3.I.1 H3.I.2 HT.I (by have h:=S.I.2;rwa[KF zw]at h);obtain⟨-,-,-,-,q4⟩:=S.I.1.ks.box.cells;go_wp2;go_ret;exact⟨al HY.I.symm,S.I.1.ks.low⟩
end
section
def abP {α:Type}(f:α->Bool)(g:α->α):List α->List α
 |[]=>[]
 |x::r=>if f x then g x::r else x::abP f g r
section
variable {α β:Type}{f:α->Bool}{g:α->α}
def acp:∀{l:List α}{n:Nat}{x:α},l[n]? =o_ x->f x=true->(∀y∈l.take n,f y=false)->abP f g l=l.set n (g x)
 |[],n,x,h,_,_=>Zd2
 |y::r,0,x,h,hf,_=>by
  simp only[List.getElem?_cons_zero,LF]at h;subst h;simp[abP,hf]
 |y::r,n+1,x,h,hf,hn=>by
  simp only[List.getElem?_cons_succ]at h;have h1:=hn y zy;simp only[abP,h1,List.set_cons_succ];rw[acp h hf λz hz=>hn z Zen];rfl
def acu {h:α->β}(hg:∀x,h (g x)=h x):∀l:List α,(abP f g l).map h=l.map h
 |[]=>rfl
 |x::r=>by
  simp only[abP]
  split
  .simp [hg]
  .simp [acu hg r]
def acs {y:α}:∀{l:List α},y∈abP f g l->y∈l\/ ∃x,l.find? f=o_ x/\y=g x
 |[],h=>ZcF
 |x::r,h=>by
  simp only[abP]at h
  split at h
  .rcases Kt.1 h with rfl|h
   .exact .inr ⟨x,by rw[aeC ZcD],rfl⟩
   .exact .inl (LB _ h)
  .rcases Kt.1 h with rfl|h
   .exact .inl zy
   .rcases acs h with h5|⟨x',h5,h6⟩
    .exact .inl (LB _ h5)
    .exact .inr ⟨x',by rw[aeD ZcD];exact h5,h6⟩
end
def acf {α:Type}{num:α->Int}{id:Int}{g:α->α}(hg:∀x,num (g x)=num x)(j:Int):∀l:List α,hP num j (abP (λx=>decide (num x=id)) g l)=if j=id then(hP num j l).map g else hP num j l
 |[]=>by simp[abP,hP]
 |x::r=>by
  have h:=acf hg j r (id:=id);unfold hP at h⊢;simp only[abP];by_cases hx:num x=id
  .simp only[hx,decide_true,if_true,LL,hg]
   by_cases hj:j=id
   .simp [hj]
   .have:¬id=j:=λe=>hj e.symm
    simp[hj,this]
  .simp only[hx,decide_false,J5,if_false,LL]
   by_cases hj:num x=j
   .have:¬j=id:=λe=>hx (hj.trans e)
    simp[hj,this]
   .simp only[hj,decide_false]
    exact h
def abZ (its:List ByteArray)(q:dS):dS:={q with Ma:=its}
def ab7 (port:Int)(its:List ByteArray)(p:aE):aE:={p with ai:=abP (λq:dS=>decide (q.id=port)) (abZ its) p.ai}
def abK (part port:Int)(its:List ByteArray)(ps:List aE):List aE:=abP (λp:aE=>decide (p.id=part)) (ab7 port its) ps
def acS (part port:Int)(its:List ByteArray)(ps:List aE)(a b:Int):endP (abK part port its ps) a b=if a=part/\b=port then(endP ps a b).map (abZ its)else endP ps a b:=by
 unfold abK endP;rw[acf (num:=λp:aE=>p.id) (g:=ab7 port its) (λ_=>rfl)];by_cases ha:a=part
 .subst ha
  simp only[if_true,true_and];cases hP (λp:aE=>p.id) a ps with
  |none=>simp
  |some p=>
   simp only[J9,aeE];exact acf (num:=λq:dS=>q.id) (g:=abZ its) (λ_=>rfl) b p.ai
 .simp [ha]
def ab4 (t:dS):Nat:=(t.max-t.Ma.length).toNat
def abM (ps:List aE)(c:eQ):List aE:=match endP ps c.src c.ga,endP ps c.dst c.hI with
 |some s,o_ t=>if s.Mf then abK c.src c.ga (s.Ma.drop (min s.Ma.length (ab4 t))) (abK c.dst c.hI (t.Ma++s.Ma.take (min s.Ma.length (ab4 t))) ps)else if s.Ma.length=0 then ps else abK c.dst c.hI (s.Ma.take 1) ps
 |_,_=>ps
def abI (src:Int):List aE->List eQ->List aE
 |ps,[]=>ps
 |ps,c::r=>abI src (if c.src=src then abM ps c else ps) r
def ab3 (src:Int):∀(ps:List aE)(l r:List eQ),abI src ps (l++r)=abI src (abI src ps l) r
 |_,[],_=>rfl
 |_,_::l,r=>ab3 src _ l r
def ace {src:Int}{ps:List aE}{l:List eQ}{n:Nat}{c:eQ}(h:l[n]? =o_ c):abI src ps (l.take (n+1))=if c.src=src then abM (abI src ps (l.take n)) c else abI src ps (l.take n):=by
 have e:l.take (n+1)=l.take n++[c]:=by rw[List.take_add_one,h];rfl
 rw[e,ab3];rfl
def abL (q:dS):dS:={q with Ma:=[]}
def abQ (p:aE):aE:={p with ai:=p.ai.map abL}
structure abz (ps0 ps:List aE):Prop where
 acE:ps.map abQ=ps0.map abQ
 right:∀p∈ps,∀q∈p.ai,dj q=true
def acY (part port:Int)(its:List ByteArray)(ps:List aE):(abK part port its ps).map abQ=ps.map abQ:=
 acu (λp=>by
  have e:(abP (λq:dS=>decide (q.id=port)) (abZ its) p.ai).map abL=p.ai.map abL:=acu (g:=abZ its) (λq=>rfl) p.ai;unfold abQ ab7;simp only[e]) ps
section
variable {ps0 ps:List aE}{part port:Int}{its:List ByteArray}
def abz.Ma {q:dS}(h:abz ps0 ps)(he:endP ps part port=o_ q)(hq:dj (abZ its q)=true):abz ps0 (abK part port its ps):=by
 refine⟨(acY _ _ _ _).trans h.acE,λp hp y hy=>?_⟩;rcases acs hp with hp|⟨p',hp',rfl⟩
 .exact h.right p hp y hy
 .rcases acs hy with hy|⟨y',hy',rfl⟩
  .exact h.right p' (RG hp') y hy
  .unfold endP hP at he
   rw[hp',aeE,hy']at he;cases he;exact hq
end
def ac9 {ps:List aE}{a b:Int}{q:dS}(h:endP ps a b=o_ q):∃p∈ps,p.id=a/\q∈p.ai/\q.id=b:=by
 unfold endP at h;cases hf:hP (λp:aE=>p.id) a ps with
 |none=>rw[hf]at h;cases h
 |some p=>
  rw[hf]at h;simp only[aeE]at h;have h1:=PS hf;have h2:=PS h;simp only[decide_eq_true_eq]at h1 h2;exact⟨p,RG hf,h1,RG h,h2⟩
def acK {ps0 ps:List aE}(h:ps.map abQ=ps0.map abQ)(a b:Int):(endP ps a b).map abL=(endP ps0 a b).map abL:=by
 have key:∀l:List aE,(endP l a b).map abL=endP (l.map abQ) a b:=λl=>by
  unfold endP;have e1:hP (λp:aE=>p.id) a (l.map abQ)=(hP (λp:aE=>p.id) a l).map abQ:=by
   unfold hP;rw[aeu];rfl
  rw[e1];cases hP (λp:aE=>p.id) a l with
  |none=>rfl
  |some p=>
   simp only[J9,aeE]
   show(hP (λq:dS=>q.id) b p.ai).map abL=hP (λq:dS=>q.id) b (p.ai.map abL)
   unfold hP;rw[aeu];rfl
 rw[key,key,h]
def abz.refl {ps:List aE}(h:∀p∈ps,∀q∈p.ai,dj q=true):abz ps ps:=⟨rfl,h⟩
def abz.ends {ps0 ps:List aE}{c:eQ}(h:abz ps0 ps)(hc:pa ps0 c=true):∃s t,endP ps c.src c.ga=o_ s/\endP ps c.dst c.hI=o_ t/\s.Mf=t.Mf/\¬c.src=c.dst/\dj s=true/\dj t=true:=by
 have h1:=acK h.acE c.src c.ga;have h2:=acK h.acE c.dst c.hI;unfold pa at hc;cases e1:endP ps0 c.src c.ga with
 |none=>rw[e1]at hc;simp at hc
 |some s0=>
  cases e2:endP ps0 c.dst c.hI with
  |none=>rw[e1,e2]at hc;simp at hc
  |some t0=>
   rw[e1,e2]at hc;simp only[J7,PR,decide_eq_false_iff_not,beq_iff_eq]at hc;rw[e1]at h1;rw[e2]at h2;obtain⟨s,hs,es⟩:=Kw.1 h1;obtain⟨t,ht,et⟩:=Kw.1 h2;obtain⟨p,hp,-,hq,-⟩:=ac9 hs;obtain⟨p',hp',-,hq',-⟩:=ac9 ht;have q1:s.Mf=s0.Mf:=(congrArg dS.Mf es:(abL s).Mf=(abL s0).Mf)
   have q2:t.Mf=t0.Mf:=(congrArg dS.Mf et:(abL t).Mf=(abL t0).Mf)
   exact⟨s,t,hs,ht,by rw[q1,q2];exact hc.2,hc.1.1.1,h.right p hp s hq,h.right p' hp' t hq'⟩
def abT {q:dS}(h:dj q=true):1<=q.max/\q.max<=5/\(q.Mf=false->q.max=1)/\(∀s∈q.Ma,bw s=true)/\(q.Ma.length:Int)<=q.max:=by
 simp only[dj,dJ,cv,J7,Kb,decide_eq_true_eq,PZ]at h;exact⟨h.1.1.1,h.1.1.2,λe=>h.1.2.resolve_left (by rw[e];decide),h.2.1,h.2.2⟩
def acJ {q:dS}{its:List ByteArray}(h:dj q=true)(h1:∀s∈its,bw s=true)(h2:(its.length:Int)<=q.max):dj (abZ its q)=true:=by
 unfold dj at h⊢;rw[J7]at h⊢;refine⟨h.1,?_⟩;unfold dJ;rw[J7,PZ];exact⟨h1,decide_eq_true h2⟩
def ady {s t:dS}(h:dj t=true):((t.Ma++s.Ma.take (min s.Ma.length (ab4 t))).length:Int)<=t.max:=by
 have h1:=(abT h).2.2.2.2;unfold ab4;rw[Lf,Lk];omega
def abz.carry {ps0 ps:List aE}{c:eQ}(h:abz ps0 ps)(hc:pa ps0 c=true):abz ps0 (abM ps c):=by
 obtain⟨s,t,hs,ht,hq,hne,ps1,pt1⟩:=h.ends hc;unfold abM;rw[hs,ht];simp only;have a1:=(abT ps1).2.2.2.1;have a2:=(abT pt1).2.2.2.1
 split
 .have h1:abz ps0 (abK c.dst c.hI (t.Ma ++ s.Ma.take (min s.Ma.length (ab4 t))) ps):=h.Ma ht (acJ pt1 (λu hu=>by
   rcases Kg.1 hu with hu|hu
   .exact a2 u hu
   .exact a1 u (RK hu)) (ady pt1))
  refine h1.Ma (q:=s) ?_ (acJ ps1 (λu hu=>a1 u (RL hu)) (by have:=(abT ps1).2.2.2.2;rw[Ql];omega));rw[acS,if_neg (λe=>hne e.1),hs]
 .split
  .exact h
  .exact h.Ma ht (acJ pt1 (λu hu=>a1 u (RK hu)) (by have:=(abT pt1).1;rw[Lk];omega))
def acM {ps:List aE}:∀{l m:List eQ},fA ps m l=true->∀c∈l,pa ps c=true
 |[],_,_,c,hc=>by cases hc
 |d::r,m,h,c,hc=>by
  simp only[fA,J7]at h;rcases Kt.1 hc with rfl|hc
  .exact h.1.1
  .exact acM h.2 c hc
def abz.all {ps0:List aE}{src:Int}:∀{l:List eQ}{ps:List aE},abz ps0 ps->(∀c∈l,pa ps0 c=true)->abz ps0 (abI src ps l)
 |[],_,h,_=>h
 |c::r,ps,h,hc=>by
  unfold abI;refine abz.all ?_ λd hd=>hc d (LB _ hd)
  split
  .exact h.carry (hc c zy)
  .exact h
end
end Go.Proofs.YtckenjkcmajicaaGreat
