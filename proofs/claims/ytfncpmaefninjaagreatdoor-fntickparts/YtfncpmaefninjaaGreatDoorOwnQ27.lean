/- What the proof leans on, part 27. -/
import Derived.Test.YtfncpmaefninjaaGreatDoorOwnQ25
import Derived.Test.YtfncpmaefninjaaGreatDoorOwnQ26
set_option linter.all false
set_option maxRecDepth 100000
set_option maxHeartbeats 8000000
open Go.Proofs.Tryz
open Go renaming World->w_,Calls->k_,Addr->d_
open Go.Ending renaming returned->r_
open Go.Obj renaming cells->c_
open Go.RowKit renaming Below->B_,Hid->bN
open Go.Value renaming slice->s_,bool->b_

namespace Go.Proofs.YtfncpmaefninjaaGreatDoor
open Go.RowKit Go.Maps
attribute [local go_sem ↓] Go.wp_at_zero Go.wp_at_succ
theorem anu (a:Option d_) (len cap:Nat) (E:d_ × d_ × d_) (w:w_) (he:Ers w w.heap.size E) (hb:len<=1048576->Bytes w a len):
  k_ Tryz.prog 6 #[s_ a len cap] w fun e w'=>e=r_ (b_ true)/\B_ w.heap.size w w':=by
 by_cases hl:1048576 < len
 .have hd:decide (1048576 < len)=true:=by simp [hl]
  go_enter func6,ntmps6
  go_wp2_with (go_at_call 7; refine (DG _ _ _ _).mono ?_; rintro e w' ⟨rfl,rfl⟩; rw [hd]);go_ret;exact ⟨rfl,by go_grown⟩
 have hd:decide (1048576 < len)=false:=by simp [hl]
 have HBY:bN (Bytes w a len):=hb zo;clear hb;have HER:=aA he;clear he;have HL:bN (len<=1048576):=(by omega:len<=1048576)
 clear hl
 go_enter func6,ntmps6
 go_wp2_with (go_at_call 7; refine (DG _ _ _ _).mono ?_; rintro e w' ⟨rfl,rfl⟩; rw [hd]);clear hd;have S:bN (TqS w' [] [] [] w'):=⟨by simp,by simp,by simp,by simp,Kp _ _⟩
 have Mb:=anj a len cap w' HL.I HBY.I;go_wp2_with fail;refine Mb.mono ?_;clear Mb HBY;rintro e af8 ⟨p,bC,n,rfl,hi,hn,ho,hs,hb⟩;have HI:=aA hi;have HN:=aA hn;clear hi hn;replace S:=aA (S.I.put hb ho hs);clear ho hs hb;go_upto_region 4 with (refine ec _ _ p.cells (Kj _ _) ?_);generalize (af8.alloc (c_ ar 31)).setRow af8.heap.size p.cells=WX1 at *;generalize af8.heap.size=X1 at *;obtain ⟨R1,Ps⟩: ∃ R,bN (R=agc p.pure bC n):=⟨_,rfl⟩
 have Mb:=agC p bC n E _ (S.I.good (x:=(X1,p)) zw) ((HER.I.below S.I.low).up S.I.low.size) HI.I;rw [<- Ps.I] at Mb;go_wp2_with (refine eT _ (g:=X1) (cs:=p.cells) (S.I.ins (X1,p) zw).1.1 ?_);refine Mb.mono ?_;clear Mb;rintro e A2 ⟨q,rfl,ho,hp,hb⟩;replace S:=aA (S.I.put hb ho (by rw [hp]; exact (by rw [Ps.I]; exact agJ)));have b8:=aA hp;clear ho hb hp;go_upto_region 5 with (refine ec _ _ q.cells (Kj _ _) ?_);generalize (A2.alloc (c_ ar 31)).setRow A2.heap.size q.cells=WX2 at *;generalize A2.heap.size=X2 at *;have Mb:=ahR p bC n _ (dV (S.I.ins (X1,p) zw).2.1) (fun x hx=>(cY (S.I.ins (X1,p) zw).2.1 hx).1) (S.I.ins (X1,p) zw).1.2.at HI.I;rw [<- Ps.I] at Mb;go_wp2_with (refine eT _ (g:=X1) (cs:=p.cells) (S.I.ins (X1,p) zw).1.1 ?_);refine Mb.mono ?_;clear Mb;rintro e A3 ⟨r,rfl,ho,hp,hb⟩;replace S:=aA (S.I.put hb ho (by rw [hp]; exact (by rw [Ps.I]; exact agJ)));have yc:=aA hp;clear ho hb hp;go_upto_region 6 with (refine ec _ _ r.cells (Kj _ _) ?_);generalize (A3.alloc (c_ ar 31)).setRow A3.heap.size r.cells=WX3 at *;generalize A3.heap.size=X3 at *;obtain ⟨c,hc⟩: ∃ c,bN (c=R1.isSome):=⟨_,rfl⟩
 rw [<- hc.I];have n1:(c != c)=false:=by simp
 have Mb:=Nn q r _ _ _ (S.I.ins (X2,q) zw).2.1 (S.I.ins (X2,q) zw).1.2 (S.I.ins (X3,r) zw).2.1 (S.I.ins (X3,r) zw).1.2 (b8.I.trans yc.I.symm);unfold af.cells at Mb;obtain ⟨m0,m1,m2,m3,m4,m5,m6,m7⟩:=(S.I.ins (X2,q) zw).1.1.cells;obtain ⟨k0,k1,k2,k3,k4,k5,k6,k7⟩:=(S.I.ins (X3,r) zw).1.1.cells;go_wp2_with fail;clear m0 m1 m2 m3 m4 m5 m6 m7 k0 k1 k2 k3 k4 k5 k6 k7;refine Mb.mono ?_;clear Mb;rintro e B2 ⟨rfl,hb⟩;replace S:=aA (S.I.below hb);clear hb;cases c
 case false=>
  clear n1;have Mb:=Nn q r _ _ _ (S.I.ins (X2,q) zw).2.1 (S.I.ins (X2,q) zw).1.2 (S.I.ins (X3,r) zw).2.1 (S.I.ins (X3,r) zw).1.2 (b8.I.trans yc.I.symm);unfold af.cells at Mb;obtain ⟨m0,m1,m2,m3,m4,m5,m6,m7⟩:=(S.I.ins (X2,q) zw).1.1.cells;obtain ⟨k0,k1,k2,k3,k4,k5,k6,k7⟩:=(S.I.ins (X3,r) zw).1.1.cells;go_wp2_with fail;clear m0 m1 m2 m3 m4 m5 m6 m7 k0 k1 k2 k3 k4 k5 k6 k7;refine Mb.mono ?_;clear Mb;rintro e B2 ⟨rfl,hb⟩;replace S:=aA (S.I.below hb);clear hb;go_wp2;go_ret;exact ⟨al zw,S.I.low⟩
 clear n1;have d1: ¬ n+1=0:=by have:=HN.I; omega
 have n0:(0:Int)<=n:=HN.I.1;have n2:n < 30:=HN.I.2;have l0:=HL.I;go_upto_region 9 with fail;obtain ⟨k,hk⟩: ∃ k,bN (k=(len:Int) % (n+1)):=⟨_,rfl⟩
 rw [<- hk.I];have HK:bN (0<=k/\k<=n):=by rw [hk.I]; exact ⟨Int.emod_nonneg _ zo,by have:=Int.emod_lt_of_pos (len:Int) (show 0 < n+1 by omega); omega⟩
 clear d1 l0 hk;have HF:=aA (anP Ps.I hc.I.symm HK.I);obtain ⟨R2,Po⟩: ∃ R,bN (R=agc p.pure bC k):=⟨_,rfl⟩
 rw [<- Po.I] at HF;have Mb:=agC p bC k E _ (S.I.good (x:=(X1,p)) zw) ((HER.I.below S.I.low).up S.I.low.size) HI.I;rw [<- Po.I] at Mb;go_wp2_with (refine eT _ (g:=X1) (cs:=p.cells) (S.I.ins (X1,p) zw).1.1 ?_);refine Mb.mono ?_;clear Mb;rintro e afT ⟨u,rfl,ho,hp,hb⟩;replace S:=aA (S.I.put hb ho (by rw [hp]; exact (by rw [Po.I]; exact agJ)));have u3:=aA hp;clear ho hb hp;go_upto_region 10 with (refine ec _ _ u.cells (Kj _ _) ?_);generalize (afT.alloc (c_ ar 31)).setRow afT.heap.size u.cells=WX4 at *;generalize afT.heap.size=X4 at *;rw [<- u3.I] at HF;have w1:IntKind.i64.wrap (bC+k)=bC+k:=by have h1:=HF.I.1; have h2:=HK.I; have h3:=HI.I; rw [K8]; omega
 have w2:IntKind.i64.wrap (n - k)=n - k:=by have h2:=HK.I; rw [K8]; omega
 obtain ⟨ei,hR3⟩: ∃ R,bN (R=agc u.pure (bC+k) (n - k)):=⟨_,rfl⟩
 rw [<- hR3.I] at HF;have Mb:=agC u (bC+k) (n - k) E _ (S.I.good (x:=(X4,u)) zw) ((HER.I.below S.I.low).up S.I.low.size) (by have h1:=HF.I.1; have h2:=HK.I; have h3:=HI.I; unfold I64 at h3; omega);rw [<- hR3.I] at Mb;go_wp2_with (refine eT _ (g:=X4) (cs:=u.cells) (S.I.ins (X4,u) zw).1.1 ?_);refine Mb.mono ?_;clear Mb;rintro e JB ⟨b,rfl,ho,hp,hb⟩;replace S:=aA (S.I.put hb ho (by rw [hp]; exact (by rw [hR3.I]; exact agJ)));have xa:=aA hp;clear ho hb hp;go_upto_region 11 with (refine ec _ _ b.cells (Kj _ _) ?_);generalize (JB.alloc (c_ ar 31)).setRow JB.heap.size b.cells=WX5 at *;generalize JB.heap.size=YV at *;clear w1 w2;rw [HF.I.2.2.1];have Mb:=Nn b q _ _ _ (S.I.ins (YV,b) zw).2.1 (S.I.ins (YV,b) zw).1.2 (S.I.ins (X2,q) zw).2.1 (S.I.ins (X2,q) zw).1.2 (xa.I.trans (HF.I.2.2.2.trans b8.I.symm));unfold af.cells at Mb;obtain ⟨m0,m1,m2,m3,m4,m5,m6,m7⟩:=(S.I.ins (YV,b) zw).1.1.cells;obtain ⟨k0,k1,k2,k3,k4,k5,k6,k7⟩:=(S.I.ins (X2,q) zw).1.1.cells;go_wp2_with fail;clear m0 m1 m2 m3 m4 m5 m6 m7 k0 k1 k2 k3 k4 k5 k6 k7;refine Mb.mono ?_;clear Mb;rintro e hE ⟨rfl,hb⟩;replace S:=aA (S.I.below hb);clear hb;go_wp2;go_ret;exact ⟨rfl,S.I.low⟩
end Go.Proofs.YtfncpmaefninjaaGreatDoor
