/- What the proof leans on, part 4. -/
import Derived.Test.YtfncpmaefninjaaGreatDoorOwnQ1
import Derived.Test.YtfncpmaefninjaaGreatDoorOwnQ2
import Derived.Deep.Cut
import Derived.Lib.Join
set_option linter.all false
set_option maxRecDepth 100000
set_option maxHeartbeats 8000000
open Go.Proofs.Tryz
open Go renaming World->w_,Calls->k_
open Go.Ending renaming returned->r_
open Go.IntKind renaming i64->j_
open Go.Obj renaming cells->c_
open Go.RowKit renaming Below->B_,Hid->bN
open Go.Value renaming int->i_,slice->s_,string->t_,agg->a_
open Option renaming some->o_,none->n_
open Go.Proofs.Tryz renaming prog->J3

namespace Go.Proofs.YtfncpmaefninjaaGreatDoor
def dF (a b:aD):Bool:=if a.RX=b.RX then decide (a.RU < b.RU) else decide (b.RX < a.RX)
def iy (r:Option aD) (x:aD):Option aD:=match r with
 | none=>o_ x
 | some b=>if dF x b then o_ x else o_ b
def jo (l:List aD):Option aD:=l.foldl iy n_
def ny (l:List aD) (x:aD):jo (l ++ [x])=iy (jo l) x:=by simp [jo]
def zp {r:Option aD} {x y:aD} (h:iy r x=o_ y):y=x\/r=o_ y:=by
 unfold iy at h
 exact ZbH
def pN (r:Option aD) (x:aD): ∃ y,iy r x=o_ y:=by
 unfold iy
 split
 .exact ⟨_,rfl⟩
 .split <;> exact ⟨_,rfl⟩
def dO (f:aD->Bool) (l:List aD) (k:Nat) (i:Int):Prop:=match jo ((l.take k).filter f) with
 | none=>i= -1
 | some x=> ∃ n:Nat,i=n/\n < k/\l[n]? =o_ x
section
variable {f:aD->Bool} {l:List aD} {k:Nat} {i:Int} {x:aD}
def dO.start (f:aD->Bool) (l:List aD):dO f l 0 (-1):=by simp [dO,jo]
def rS (hx:l[k]? =o_ x):(l.take (k+1)).filter f=(l.take k).filter f ++ (if f x then [x] else []):=by
 rw [cj hx,QN];by_cases h:f x=true <;> simp [h]
def dO.skip (h:dO f l k i) (hx:l[k]? =o_ x) (hf:f x=false):dO f l (k+1) i:=by
 unfold dO at h ⊢;rw [rS hx,hf];simp only [J5,if_false,QO]
 exact ZbS
def dO.first (h:dO f l k i) (hi:i < 0) (hx:l[k]? =o_ x) (hf:f x=true):dO f l (k+1) k:=by
 unfold dO at h ⊢;rw [rS hx,hf];simp only [if_true];rw [ny]
 exact ZbF
def dO.got (h:dO f l k i) (hi: ¬ i < 0): ∃ (n:Nat) (y:aD),i=n/\n < k/\l[n]? =o_ y/\jo ((l.take k).filter f)=o_ y:=by
 unfold dO at h
 exact ZbL
def dO.next {n:Nat} {y:aD} (hn:n < k) (hy:l[n]? =o_ y) (he:jo ((l.take k).filter f)=o_ y) (hx:l[k]? =o_ x) (hf:f x=true):dO f l (k+1) (if dF x y then (k:Int) else (n:Int)):=by
 unfold dO;rw [rS hx,hf];simp only [if_true];rw [ny,he];simp only [iy];by_cases ha:dF x y=true
 .simp only [ha,if_true]
  exact ⟨k,rfl,zo,hx⟩
 .simp only [ha,J5,if_false]
  exact ⟨n,rfl,zo,hy⟩
end
section
open Go.RowKit
def O4 {a n:Int} {s:ByteArray} (h0:0<=a) (h10:a < 10) (h:Lib.decDigits a.toNat ++ s.data.toList=Lib.decDigits n.toNat) (hn:0<=n):
  (⟨#[UInt8.ofNat (48+a).toNat]⟩:ByteArray) ++ s=Ij n:=by
 have e2:(48+a).toNat=48+a.toNat:=zo
 apply ByteArray.ext;apply Array.ext';rw [Ij,F7 hn,<- h,Lib.decDigits,dif_pos zo];simp [e2,ByteArray.data_append]
def NT (n:Int) (hn0:0<=n) (hn:n<=9999999999) (w:w_):
  k_ J3 46 #[i_ j_ n] w fun e w'=>e=r_ (t_ (Ij n))/\B_ w.heap.size w w':=by
 have h0: ¬ n < 0:=zo
 have hcv:=Gx;have HN:bN (0<=n/\n<=9999999999):=⟨hn0,hn⟩
 clear hn0 hn
 go_enter func46,ntmps46
 go_wp2;clear h0
 go_loopw [0,3] (fun i t wr=> ∃ (a:Int) (s:ByteArray),i=i_ j_ a/\t=t_ s/\bN (0<=a/\a<=n/\Lib.decDigits a.toNat ++ s.data.toList=Lib.decDigits n.toNat)/\B_ w.heap.size w wr) (fun i _ _=>(intOf i).toNat)
 case atStart=>exact ⟨n,⟨#[]⟩,rfl,rfl,⟨HN.I.1,LJ _,by simp⟩,Kp _ _⟩
 case round=>
  obtain ⟨a,s,rfl,rfl,HD,kj⟩:=hrel;have hs: ¬ 9223372036854775807 < 1+s.size:=by
   have h1:=congrArg List.length HD.I.2.2;have h2:=Fk HN.I.2;have h3:s.data.toList.length=s.size:=by simp
   rw [Lf] at h1;omega
  by_cases h10:10<=a
  .have e1:wrap64 (48+a.tmod 10) % 256=48+a % 10:=by
    have:=HD.I
    rw [Int.tmod_eq_emod_of_nonneg zo];unfold wrap64; omega
   have e2:a.tdiv 10=a / 10:=Int.tdiv_eq_ediv_of_nonneg (by have:=HD.I; omega);have e3:wrap64 (a / 10)=a / 10:=by have:=HD.I; have:=HN.I; unfold wrap64; omega
   go_wp2;go_roundw
   case rel=>
    refine ⟨a / 10,_,by rw [e3],rfl,?_,kj.alloc kj.size _⟩;have HD':=HD.I;refine ⟨zo,zo,?_⟩;exact GP h10 HD'.2.2
   case measure=>simp only [intOf]; have:=HD.I; omega
  .have e1:wrap64 (48+a) % 256=48+a:=by have:=HD.I; unfold wrap64; omega
   go_wp2;go_ret;refine ⟨?_,kj.alloc kj.size _⟩;have HD':=HD.I;rw [O4 HD'.1 zo HD'.2.2 HN.I.1];rfl
def N2 {n:Int} (h:n < 0):Lib.itoa n=45 :: Lib.decDigits (-n).toNat:=by
 unfold Lib.itoa;rw [if_pos h]
 congr 2
 omega
def Pg {n:Int} (h:n < 0):(⟨#[45]⟩:ByteArray) ++ Ij (-n)=Ij n:=by
 apply ByteArray.ext;apply Array.ext';rw [Ij,Ij,N2 h,F7 zo];simp [ByteArray.data_append]
def MD {n:Int} (h0: -9999999999<=n) (h:n<=9999999999):(Ij n).size<=11:=by
 have e:(Ij n).size=(Lib.itoa n).length:=by simp [Ij,ByteArray.size]
 rw [e];by_cases hn:n < 0
 .have:=Fk (n:= -n) zo
  rw [N2 hn]; simp; omega
 .have:=Fk h
  rw [F7 zo]; omega
def MC (n:Int) (hn0: -9999999999<=n) (hn:n<=9999999999) (w:w_):
  k_ J3 46 #[i_ j_ n] w fun e w'=>e=r_ (t_ (Ij n))/\B_ w.heap.size w w':=by
 by_cases h:n < 0
 .have e1:wrap64 (-n)= -n:=by unfold wrap64; omega
  have hs: ¬ 9223372036854775807 < 1+(Ij (-n)).size:=by have:=MD (n:= -n) zo zo; omega
  have h1:0<= -n:=zo
  have h2: -n<=9999999999:=zo
  have e4:=Pg h;clear hn0 hn
  go_enter func46,ntmps46
  go_wp2_with (go_at_call 46; refine (NT (-n) h1 h2 _).mono ?_; rintro e w' ⟨rfl,hb⟩);go_ret;exact ⟨by first | rfl | (rw [e4]; rfl),hb⟩
 .exact NT n zo hn w
def ME (k:Int):ByteArray:=
 if k=1 then ⟨#[114,117,110]⟩ else if k=2 then ⟨#[115,108,101,101,112]⟩ else if k=3 then ⟨#[119,97,105,116]⟩
 else if k=4 then ⟨#[115,105,103,110,97,108]⟩ else if k=5 then ⟨#[115,101,116]⟩ else if k=6 then ⟨#[114,101,115,101,116]⟩
 else if k=7 then ⟨#[97,119,97,105,116]⟩ else if k=8 then ⟨#[115,101,110,100]⟩ else if k=9 then ⟨#[116,97,107,101]⟩
 else if k=10 then ⟨#[115,104,111,119]⟩ else if k=11 then ⟨#[99,108,101,97,114]⟩ else if k=12 then ⟨#[114,101,97,100]⟩
 else if k=13 then ⟨#[119,114,105,116,101]⟩ else if k=14 then ⟨#[102,101,116,99,104]⟩ else if k=15 then ⟨#[115,116,97,114,116]⟩
 else if k=16 then ⟨#[115,116,111,112]⟩ else if k=17 then ⟨#[108,111,111,112]⟩ else ⟨#[]⟩
def MF (k n m:Int) (s:ByteArray):ByteArray:=
 if k=1\/k=2\/k=4\/k=5\/k=6\/k=11\/k=14\/k=15\/k=16 then ME k ++ ⟨#[32]⟩ ++ Ij n
 else if k=3\/k=7\/k=9\/k=12 then ME k ++ ⟨#[32]⟩ ++ Ij n ++ ⟨#[32]⟩ ++ Ij m
 else if k=8 then ME k ++ ⟨#[32]⟩ ++ Ij n ++ ⟨#[32]⟩ ++ Ij m ++ ⟨#[32]⟩ ++ s
 else if k=10\/k=13 then ME k ++ ⟨#[32]⟩ ++ Ij n ++ ⟨#[32]⟩ ++ s
 else ME k
def M3 (w:w_) (g:Nat):Prop:=g < w.heap.size/\ ∀ k:Nat,k<=17->w.cell? ⟨g,k,n_⟩=o_ (t_ (ME k))
def M3.below {w w':w_} {g:Nat} (h:M3 w g) (hb:B_ w.heap.size w w'):M3 w' g:=
 ⟨Kn h.1 hb.size,fun k hk=>(hb.cell (p:=⟨g,k,n_⟩) h.1).trans (h.2 k hk)⟩
def MG (w:w_):k_ J3 127 #[] w fun e w'=>e=r_ (s_ (o_ ⟨w.heap.size,0,n_⟩) 18 18)/\M3 w' w.heap.size/\B_ w.heap.size w w':=by
 go_enter func127,ntmps127
 go_wp2;go_ret;refine ⟨rfl,⟨by simp,?_⟩,by go_grown⟩;intro k hk;have h:k=0\/k=1\/k=2\/k=3\/k=4\/k=5\/k=6\/k=7\/k=8\/k=9\/k=10\/k=11\/k=12\/k=13\/k=14\/k=15\/k=16\/k=17:=zo
 rcases h with rfl | rfl | rfl | rfl | rfl | rfl | rfl | rfl | rfl | rfl | rfl | rfl | rfl | rfl | rfl | rfl | rfl | rfl <;> simp [ME]
def O1 {p:Prop} [Decidable p] {a b:ByteArray} {n:Nat} (ha:a.size<=n) (hb:b.size<=n):(if p then a else b).size<=n:=by split <;> assumption
def MH (k:Int):(ME k).size<=6:=by
 unfold ME
 repeat (first | decide | refine O1 (by decide) ?_)
def M3.one {w:w_} {g:Nat} (h:M3 w g) (k:Nat) (hk:k<=17):w.cell? ⟨g,k,n_⟩=o_ (t_ (ME k)):=h.2 k hk
def OP {k n m:Int} {s:ByteArray} (h:mQ k n m s=true):k=1\/k=2\/k=3\/k=4\/k=5\/k=6\/k=7\/k=8\/k=9\/k=10\/k=11\/k=12\/k=13\/k=14\/k=15\/k=16\/k=17:=by
 unfold mQ at h
 split at h
 .omega
 split at h
 .omega
 split at h
 .omega
 split at h
 .omega
 split at h
 .omega
 .cases h
def MK {n lo hi:Int} (h:cv n lo hi=true):lo<=n/\n<=hi:=by simpa [cv] using h
def Nq {s:ByteArray} (h:bw s=true):s.size<=20:=by
 simp only [bw,J7,decide_eq_true_eq] at h;exact h.1
def ML {k n m:Int} {s:ByteArray} (hk:k=1\/k=2\/k=4\/k=5\/k=6\/k=11\/k=14\/k=15\/k=16) (h:mQ k n m s=true):1<=n/\n<=1000:=by
 unfold mQ at h;rw [if_pos hk] at h;simp only [J7] at h;exact MK h.1.1
def MZ {k n m:Int} {s:ByteArray} (hk:k=3\/k=7\/k=9\/k=12) (h:mQ k n m s=true):1<=n/\n<=1000/\ -1<=m/\m<=1000:=by
 unfold mQ at h;rw [if_neg zo,if_pos hk] at h;simp only [J7] at h;exact ⟨(MK h.1.1).1,(MK h.1.1).2,(MK h.1.2).1,(MK h.1.2).2⟩
def N0 {n m:Int} {s:ByteArray} (h:mQ 8 n m s=true):1<=n/\n<=1000/\ -1<=m/\m<=1000/\s.size<=20:=by
 unfold mQ at h;rw [if_neg zo,if_neg zo,if_pos rfl] at h;simp only [J7] at h;exact ⟨(MK h.1.1).1,(MK h.1.1).2,(MK h.1.2).1,(MK h.1.2).2,Nq h.2⟩
def NK {k n m:Int} {s:ByteArray} (hk:k=10\/k=13) (h:mQ k n m s=true):1<=n/\n<=1000/\s.size<=20:=by
 unfold mQ at h;rw [if_neg zo,if_neg zo,if_neg zo,if_pos hk] at h;simp only [J7] at h;exact ⟨(MK h.1.1).1,(MK h.1.1).2,Nq h.2⟩
structure Px (w:w_) (k n m:Int) (s:ByteArray) (W:w_):Prop where
 box:W.heap[w.heap.size]? =o_ (c_ #[i_ j_ k,i_ j_ n,i_ j_ m,t_ s] 45)
 low:B_ w.heap.size w W
section
variable {w W W2:w_} {k n m:Int} {s:ByteArray}
def Px.below (h:Px w k n m s W) (hb:B_ W.heap.size W W2):Px w k n m s W2:=⟨(hb.block _ (J2.1 h.box).1).trans h.box,h.low.trans (hb.mono h.low.size)⟩
def Px.cells (h:Px w k n m s W):W.cell? ⟨w.heap.size,0,n_⟩=o_ (i_ j_ k)/\W.cell? ⟨w.heap.size,1,n_⟩=o_ (i_ j_ n)/\W.cell? ⟨w.heap.size,2,n_⟩=o_ (i_ j_ m)/\W.cell? ⟨w.heap.size,3,n_⟩=o_ (t_ s):=by
 simp [World.cell?,h.box]
end
def PD (k n m:Int) (s:ByteArray) (w:w_) (hk:k=1\/k=2\/k=4\/k=5\/k=6\/k=11\/k=14\/k=15\/k=16) (h1:1<=n/\n<=1000):
  k_ J3 94 #[a_ #[i_ j_ k,i_ j_ n,i_ j_ m,t_ s]] w fun e w'=>e=r_ (t_ (MF k n m s))/\B_ w.heap.size w w':=by
 have HT:bN (MF k n m s=ME k ++ ⟨#[32]⟩ ++ Ij n):=by
  show _=_
  rcases hk with rfl | rfl | rfl | rfl | rfl | rfl | rfl | rfl | rfl <;> rfl
 have k0:0<=k:=zo
 have k1:k < 18:=zo
 have HK:bN (k<=17/\((k.toNat:Nat):Int)=k):=⟨zo,zo⟩
 have z0:=MH k;generalize hN:ME k=N at *;have M9:bN (ME k=N):=hN;clear hN;have z1:=MD (n:=n) zo zo;have q0: ¬ 9223372036854775807 < N.size+1:=zo
 have q1: ¬ 9223372036854775807 < N.size+1+(Ij n).size:=zo
 have HN:bN (-9999999999<=n/\n<=9999999999):=⟨zo,zo⟩
 have PH:(k == 17)=false:=by simp; omega
 have e3:(k == 3)=false:=by simp; omega
 have e7:(k == 7)=false:=by simp; omega
 have e9:(k == 9)=false:=by simp; omega
 have PF:(k == 12)=false:=by simp; omega
 have e8:(k == 8)=false:=by simp; omega
 have Pn:(k == 10)=false:=by simp; omega
 have PG:(k == 13)=false:=by simp; omega
 have S:bN (Px w k n m s (w.alloc (c_ #[i_ j_ k,i_ j_ n,i_ j_ m,t_ s] 45))):=⟨Kj _ _,(Kp _ _).alloc (Ki _) _⟩
 clear hk z0 z1 h1
 go_enter func94,ntmps94
 go_upto_region 1 with fail;generalize w.alloc (c_ #[i_ j_ k,i_ j_ n,i_ j_ m,t_ s] 45)=A at *;replace S:bN (Px w k n m s _):=S.I.below (Kp _ _).drew;refine Kr (S:=fun W=>Px w k n m s W) Zcq S.I (fun _=> ?_);generalize World.drew _=V at *;refine tt 1 S.I ?_ (hy:=fun w0 hS0=>by obtain ⟨b0,-⟩:=hS0.cells; go_simp; try with_reducible rfl);refine tt 2 S.I ?_ (hy:=fun w0 hS0=>by obtain ⟨b0,-⟩:=hS0.cells; go_simp; try with_reducible rfl);refine L7 0 (fun K hK=> ?_);go_wp2_with fail;refine (MG V).mono ?_;rintro e W1 ⟨rfl,hn,hb⟩;have n0:W1.cell? ⟨V.heap.size,k.toNat,n_⟩=o_ (t_ N):=by have:=hn.2 k.toNat Zc7; rw [HK.I.2,M9.I] at this; exact this
 replace S:bN (Px w k n m s _):=S.I.below hb;clear hb hn;refine hK.out _ _ S.I (fun _=> ?_);clear hK K
 try simp only [pt,sb,s0,s1]
 refine tt 3 S.I ?_;refine L7 4 (fun K hK=> ?_);go_wp2;refine hK.out _ _ S.I (fun _=> ?_);clear hK K n0
 try simp only [pt,sb,s0,s1]
 refine tt 5 S.I ?_;refine K3 Zcq ?_ _;obtain ⟨b0,b1,b2,b3⟩:=S.I.cells;go_wp2_with fail;refine (MC n HN.I.1 HN.I.2 _).mono ?_;rintro e W2 ⟨rfl,hb⟩;replace S:bN (Px w k n m s _):=S.I.below hb;clear hb b0 b1 b2 b3;obtain ⟨b0,b1,b2,b3⟩:=S.I.cells;exact Fd
def PB (k n m:Int) (s:ByteArray) (w:w_) (hk:k=3\/k=7\/k=9\/k=12) (h1:1<=n/\n<=1000) (h2: -1<=m/\m<=1000):
  k_ J3 94 #[a_ #[i_ j_ k,i_ j_ n,i_ j_ m,t_ s]] w fun e w'=>e=r_ (t_ (MF k n m s))/\B_ w.heap.size w w':=by
 have HT:bN (MF k n m s=ME k ++ ⟨#[32]⟩ ++ Ij n ++ ⟨#[32]⟩ ++ Ij m):=by
  show _=_
  rcases hk with rfl | rfl | rfl | rfl <;> rfl
 have k0:0<=k:=zo
 have k1:k < 18:=zo
 have HK:bN (k<=17/\((k.toNat:Nat):Int)=k):=⟨zo,zo⟩
 have z0:=MH k;generalize hN:ME k=N at *;have M9:bN (ME k=N):=hN;clear hN;have z1:=MD (n:=n) zo zo;have z2:=MD (n:=m) zo zo;have q0: ¬ 9223372036854775807 < N.size+1:=zo
 have q1: ¬ 9223372036854775807 < N.size+1+(Ij n).size:=zo
 have q2: ¬ 9223372036854775807 < N.size+1+(Ij n).size+1:=zo
 have q3: ¬ 9223372036854775807 < N.size+1+(Ij n).size+1+(Ij m).size:=zo
 have HN:bN (-9999999999<=n/\n<=9999999999):=⟨zo,zo⟩
 have HM:bN (-9999999999<=m/\m<=9999999999):=⟨zo,zo⟩
 have PH:(k == 17)=false:=by simp; omega
 have e8:(k == 8)=false:=by simp; omega
 have Pn:(k == 10)=false:=by simp; omega
 have PG:(k == 13)=false:=by simp; omega
 have S:bN (Px w k n m s (w.alloc (c_ #[i_ j_ k,i_ j_ n,i_ j_ m,t_ s] 45))):=⟨Kj _ _,(Kp _ _).alloc (Ki _) _⟩
 have HKK:bN _:=hk;clear hk z0 z1 h1 z2 h2
 go_enter func94,ntmps94
 go_upto_region 1 with fail;generalize w.alloc (c_ #[i_ j_ k,i_ j_ n,i_ j_ m,t_ s] 45)=A at *;replace S:bN (Px w k n m s _):=S.I.below (Kp _ _).drew;refine Kr (S:=fun W=>Px w k n m s W) Zcq S.I (fun _=> ?_);generalize World.drew _=V at *;refine tt 1 S.I ?_ (hy:=fun w0 hS0=>by obtain ⟨b0,-⟩:=hS0.cells; go_simp; try with_reducible rfl);refine tt 2 S.I ?_ (hy:=fun w0 hS0=>by obtain ⟨b0,-⟩:=hS0.cells; go_simp; try with_reducible rfl);refine L7 0 (fun K hK=> ?_);go_wp2_with fail;refine (MG V).mono ?_;rintro e W1 ⟨rfl,hn,hb⟩;have n0:W1.cell? ⟨V.heap.size,k.toNat,n_⟩=o_ (t_ N):=by have:=hn.2 k.toNat Zc7; rw [HK.I.2,M9.I] at this; exact this
 replace S:bN (Px w k n m s _):=S.I.below hb;clear hb hn;refine hK.out _ _ S.I (fun _=> ?_);clear hK K
 try simp only [pt,sb,s0,s1]
 refine tt 3 S.I ?_;refine L7 4 (fun K hK=> ?_);go_wp2;refine hK.out _ _ S.I (fun _=> ?_);clear hK K n0
 try simp only [pt,sb,s0,s1]
 refine tt 5 S.I ?_;refine K3 Zcq ?_ _;obtain ⟨b0,b1,b2,b3⟩:=S.I.cells;go_wp2_with fail;refine (MC n HN.I.1 HN.I.2 _).mono ?_;rintro e W2 ⟨rfl,hb⟩;replace S:bN (Px w k n m s _):=S.I.below hb;clear hb b0 b1 b2 b3;obtain ⟨b0,b1,b2,b3⟩:=S.I.cells;rcases HKK.I with hk | hk | hk | hk
 .skip
  have e3:(k == 3)=true:=by simp [hk]
  have e7:(k == 7)=false:=by simp [hk]
  have e9:(k == 9)=false:=by simp [hk]
  exact Zcl
 .skip
  have e3:(k == 3)=false:=by simp [hk]
  have e7:(k == 7)=true:=by simp [hk]
  have e9:(k == 9)=false:=by simp [hk]
  exact Zcl
 .skip
  have e3:(k == 3)=false:=by simp [hk]
  have e7:(k == 7)=false:=by simp [hk]
  have e9:(k == 9)=true:=by simp [hk]
  exact Zcl
 .skip
  have e3:(k == 3)=false:=by simp [hk]
  have e7:(k == 7)=false:=by simp [hk]
  have e9:(k == 9)=false:=by simp [hk]
  have PF:(k == 12)=true:=by simp [hk]
  exact tl
def Py (k n m:Int) (s:ByteArray) (w:w_) (hk:k=8) (h1:1<=n/\n<=1000) (h2: -1<=m/\m<=1000) (h3:s.size<=20):
  k_ J3 94 #[a_ #[i_ j_ k,i_ j_ n,i_ j_ m,t_ s]] w fun e w'=>e=r_ (t_ (MF k n m s))/\B_ w.heap.size w w':=by
 have HT:bN (MF k n m s=ME k ++ ⟨#[32]⟩ ++ Ij n ++ ⟨#[32]⟩ ++ Ij m ++ ⟨#[32]⟩ ++ s):=by
  show _=_
  subst hk; rfl
 have k0:0<=k:=zo
 have k1:k < 18:=zo
 have HK:bN (k<=17/\((k.toNat:Nat):Int)=k):=⟨zo,zo⟩
 have z0:=MH k;generalize hN:ME k=N at *;have M9:bN (ME k=N):=hN;clear hN;have z1:=MD (n:=n) zo zo;have z2:=MD (n:=m) zo zo;have q0: ¬ 9223372036854775807 < N.size+1:=zo
 have q1: ¬ 9223372036854775807 < N.size+1+(Ij n).size:=zo
 have q2: ¬ 9223372036854775807 < N.size+1+(Ij n).size+1:=zo
 have q3: ¬ 9223372036854775807 < N.size+1+(Ij n).size+1+(Ij m).size:=zo
 have q4: ¬ 9223372036854775807 < N.size+1+(Ij n).size+1+(Ij m).size+1:=zo
 have q5: ¬ 9223372036854775807 < N.size+1+(Ij n).size+1+(Ij m).size+1+s.size:=zo
 have HN:bN (-9999999999<=n/\n<=9999999999):=⟨zo,zo⟩
 have HM:bN (-9999999999<=m/\m<=9999999999):=⟨zo,zo⟩
 have PH:(k == 17)=false:=by simp; omega
 have e3:(k == 3)=false:=by simp; omega
 have e7:(k == 7)=false:=by simp; omega
 have e9:(k == 9)=false:=by simp; omega
 have PF:(k == 12)=false:=by simp; omega
 have e8:(k == 8)=true:=by simp [hk]
 have Pn:(k == 10)=false:=by simp; omega
 have PG:(k == 13)=false:=by simp; omega
 have S:bN (Px w k n m s (w.alloc (c_ #[i_ j_ k,i_ j_ n,i_ j_ m,t_ s] 45))):=⟨Kj _ _,(Kp _ _).alloc (Ki _) _⟩
 clear hk z0 z1 h1 z2 h2 h3
 go_enter func94,ntmps94
 go_upto_region 1 with fail;generalize w.alloc (c_ #[i_ j_ k,i_ j_ n,i_ j_ m,t_ s] 45)=A at *;replace S:bN (Px w k n m s _):=S.I.below (Kp _ _).drew;refine Kr (S:=fun W=>Px w k n m s W) Zcq S.I (fun _=> ?_);generalize World.drew _=V at *;refine tt 1 S.I ?_ (hy:=fun w0 hS0=>by obtain ⟨b0,-⟩:=hS0.cells; go_simp; try with_reducible rfl);refine tt 2 S.I ?_ (hy:=fun w0 hS0=>by obtain ⟨b0,-⟩:=hS0.cells; go_simp; try with_reducible rfl);refine L7 0 (fun K hK=> ?_);go_wp2_with fail;refine (MG V).mono ?_;rintro e W1 ⟨rfl,hn,hb⟩;have n0:W1.cell? ⟨V.heap.size,k.toNat,n_⟩=o_ (t_ N):=by have:=hn.2 k.toNat Zc7; rw [HK.I.2,M9.I] at this; exact this
 replace S:bN (Px w k n m s _):=S.I.below hb;clear hb hn;refine hK.out _ _ S.I (fun _=> ?_);clear hK K
 try simp only [pt,sb,s0,s1]
 refine tt 3 S.I ?_;refine L7 4 (fun K hK=> ?_);go_wp2;refine hK.out _ _ S.I (fun _=> ?_);clear hK K n0
 try simp only [pt,sb,s0,s1]
 refine tt 5 S.I ?_;refine K3 Zcq ?_ _;obtain ⟨b0,b1,b2,b3⟩:=S.I.cells;go_wp2_with fail;refine (MC n HN.I.1 HN.I.2 _).mono ?_;rintro e W2 ⟨rfl,hb⟩;replace S:bN (Px w k n m s _):=S.I.below hb;clear hb b0 b1 b2 b3;obtain ⟨b0,b1,b2,b3⟩:=S.I.cells;go_upto_region 12 with fail;replace S:bN (Px w k n m s _):=S.I.below (Kp _ _).drew;clear b0 b1 b2 b3;refine Kr (S:=fun W=>Px w k n m s W) Zcq S.I (fun _=> ?_);generalize World.drew _=V2 at *;refine tt 0 S.I ?_ (hy:=fun w0 hS0=>by obtain ⟨b0,b1,b2,b3⟩:=hS0.cells; go_simp; try with_reducible rfl);refine tt 1 S.I ?_ (hy:=fun w0 hS0=>by obtain ⟨b0,b1,b2,b3⟩:=hS0.cells; go_simp; try with_reducible rfl);refine tt 2 S.I ?_ (hy:=fun w0 hS0=>by obtain ⟨b0,b1,b2,b3⟩:=hS0.cells; go_simp; try with_reducible rfl);refine tt 3 S.I ?_ (hy:=fun w0 hS0=>by obtain ⟨b0,b1,b2,b3⟩:=hS0.cells; go_simp; try with_reducible rfl);refine tt 7 S.I ?_ (hy:=fun w0 hS0=>by obtain ⟨b0,b1,b2,b3⟩:=hS0.cells; go_simp; try with_reducible rfl);refine tt 8 S.I ?_ (hy:=fun w0 hS0=>by obtain ⟨b0,b1,b2,b3⟩:=hS0.cells; go_simp; try with_reducible rfl);refine L7 4 (fun K hK=> ?_);go_wp2_with fail;refine (MC m HM.I.1 HM.I.2 _).mono ?_;rintro e W3 ⟨rfl,hb⟩;replace S:bN (Px w k n m s _):=S.I.below hb;clear hb;refine hK.out _ _ S.I (fun _=> ?_);clear hK K
 try simp only [pt,sb,s0,s1]
 refine tt 5 S.I ?_;refine tt 6 S.I ?_;refine tt 9 S.I ?_;refine tt 10 S.I ?_;refine K3 Zcq ?_ _;exact Fd
def Pz (k n m:Int) (s:ByteArray) (w:w_) (hk:k=10\/k=13) (h1:1<=n/\n<=1000) (h3:s.size<=20):
  k_ J3 94 #[a_ #[i_ j_ k,i_ j_ n,i_ j_ m,t_ s]] w fun e w'=>e=r_ (t_ (MF k n m s))/\B_ w.heap.size w w':=by
 have HT:bN (MF k n m s=ME k ++ ⟨#[32]⟩ ++ Ij n ++ ⟨#[32]⟩ ++ s):=by
  show _=_
  rcases hk with rfl | rfl <;> rfl
 have k0:0<=k:=zo
 have k1:k < 18:=zo
 have HK:bN (k<=17/\((k.toNat:Nat):Int)=k):=⟨zo,zo⟩
 have z0:=MH k;generalize hN:ME k=N at *;have M9:bN (ME k=N):=hN;clear hN;have z1:=MD (n:=n) zo zo;have q0: ¬ 9223372036854775807 < N.size+1:=zo
 have q1: ¬ 9223372036854775807 < N.size+1+(Ij n).size:=zo
 have q2: ¬ 9223372036854775807 < N.size+1+(Ij n).size+1:=zo
 have q3: ¬ 9223372036854775807 < N.size+1+(Ij n).size+1+s.size:=zo
 have HN:bN (-9999999999<=n/\n<=9999999999):=⟨zo,zo⟩
 have PH:(k == 17)=false:=by simp; omega
 have e3:(k == 3)=false:=by simp; omega
 have e7:(k == 7)=false:=by simp; omega
 have e9:(k == 9)=false:=by simp; omega
 have PF:(k == 12)=false:=by simp; omega
 have e8:(k == 8)=false:=by simp; omega
 have S:bN (Px w k n m s (w.alloc (c_ #[i_ j_ k,i_ j_ n,i_ j_ m,t_ s] 45))):=⟨Kj _ _,(Kp _ _).alloc (Ki _) _⟩
 have HKK:bN _:=hk;clear hk z0 z1 h1 h3
 go_enter func94,ntmps94
 go_upto_region 1 with fail;generalize w.alloc (c_ #[i_ j_ k,i_ j_ n,i_ j_ m,t_ s] 45)=A at *;replace S:bN (Px w k n m s _):=S.I.below (Kp _ _).drew;refine Kr (S:=fun W=>Px w k n m s W) Zcq S.I (fun _=> ?_);generalize World.drew _=V at *;refine tt 1 S.I ?_ (hy:=fun w0 hS0=>by obtain ⟨b0,-⟩:=hS0.cells; go_simp; try with_reducible rfl);refine tt 2 S.I ?_ (hy:=fun w0 hS0=>by obtain ⟨b0,-⟩:=hS0.cells; go_simp; try with_reducible rfl);refine L7 0 (fun K hK=> ?_);go_wp2_with fail;refine (MG V).mono ?_;rintro e W1 ⟨rfl,hn,hb⟩;have n0:W1.cell? ⟨V.heap.size,k.toNat,n_⟩=o_ (t_ N):=by have:=hn.2 k.toNat Zc7; rw [HK.I.2,M9.I] at this; exact this
 replace S:bN (Px w k n m s _):=S.I.below hb;clear hb hn;refine hK.out _ _ S.I (fun _=> ?_);clear hK K
 try simp only [pt,sb,s0,s1]
 refine tt 3 S.I ?_;refine L7 4 (fun K hK=> ?_);go_wp2;refine hK.out _ _ S.I (fun _=> ?_);clear hK K n0
 try simp only [pt,sb,s0,s1]
 refine tt 5 S.I ?_;refine K3 Zcq ?_ _;obtain ⟨b0,b1,b2,b3⟩:=S.I.cells;go_wp2_with fail;refine (MC n HN.I.1 HN.I.2 _).mono ?_;rintro e W2 ⟨rfl,hb⟩;replace S:bN (Px w k n m s _):=S.I.below hb;clear hb b0 b1 b2 b3;obtain ⟨b0,b1,b2,b3⟩:=S.I.cells;rcases HKK.I with hk | hk
 .have Pn:(k == 10)=true:=by simp [hk]
  have PG:(k == 13)=false:=by simp [hk]
  clear hk;exact Fd
 .have Pn:(k == 10)=false:=by simp [hk]
  have PG:(k == 13)=true:=by simp [hk]
  clear hk;exact Fd
def PA (k n m:Int) (s:ByteArray) (w:w_) (hk:k=17):
  k_ J3 94 #[a_ #[i_ j_ k,i_ j_ n,i_ j_ m,t_ s]] w fun e w'=>e=r_ (t_ (MF k n m s))/\B_ w.heap.size w w':=by
 have HT:bN (MF k n m s=ME k):=by
  show _=_
  subst hk; rfl
 have k0:0<=k:=zo
 have k1:k < 18:=zo
 have HK:bN (k<=17/\((k.toNat:Nat):Int)=k):=⟨zo,zo⟩
 have z0:=MH k;generalize hN:ME k=N at *;have M9:bN (ME k=N):=hN;clear hN;have PH:(k == 17)=true:=by simp [hk]
 have e3:(k == 3)=false:=by simp; omega
 have e7:(k == 7)=false:=by simp; omega
 have e9:(k == 9)=false:=by simp; omega
 have PF:(k == 12)=false:=by simp; omega
 have e8:(k == 8)=false:=by simp; omega
 have Pn:(k == 10)=false:=by simp; omega
 have PG:(k == 13)=false:=by simp; omega
 have S:bN (Px w k n m s (w.alloc (c_ #[i_ j_ k,i_ j_ n,i_ j_ m,t_ s] 45))):=⟨Kj _ _,(Kp _ _).alloc (Ki _) _⟩
 clear hk z0
 go_enter func94,ntmps94
 go_upto_region 1 with fail;generalize w.alloc (c_ #[i_ j_ k,i_ j_ n,i_ j_ m,t_ s] 45)=A at *;replace S:bN (Px w k n m s _):=S.I.below (Kp _ _).drew;refine Kr (S:=fun W=>Px w k n m s W) Zcq S.I (fun _=> ?_);generalize World.drew _=V at *;refine tt 1 S.I ?_ (hy:=fun w0 hS0=>by obtain ⟨b0,-⟩:=hS0.cells; go_simp; try with_reducible rfl);refine tt 2 S.I ?_ (hy:=fun w0 hS0=>by obtain ⟨b0,-⟩:=hS0.cells; go_simp; try with_reducible rfl);refine L7 0 (fun K hK=> ?_);go_wp2_with fail;refine (MG V).mono ?_;rintro e W1 ⟨rfl,hn,hb⟩;have n0:W1.cell? ⟨V.heap.size,k.toNat,n_⟩=o_ (t_ N):=by have:=hn.2 k.toNat Zc7; rw [HK.I.2,M9.I] at this; exact this
 replace S:bN (Px w k n m s _):=S.I.below hb;clear hb hn;refine hK.out _ _ S.I (fun _=> ?_);clear hK K
 try simp only [pt,sb,s0,s1]
 refine tt 3 S.I ?_;refine L7 4 (fun K hK=> ?_);go_wp2;refine hK.out _ _ S.I (fun _=> ?_);clear hK K n0
 try simp only [pt,sb,s0,s1]
 refine tt 5 S.I ?_;refine K3 Zcq ?_ _;obtain ⟨b0,b1,b2,b3⟩:=S.I.cells;exact Fd
def NL (k n m:Int) (s:ByteArray) (w:w_) (h:mQ k n m s=true):
  k_ J3 94 #[a_ #[i_ j_ k,i_ j_ n,i_ j_ m,t_ s]] w fun e w'=>e=r_ (t_ (MF k n m s))/\B_ w.heap.size w w':=by
 by_cases c1:k=1\/k=2\/k=4\/k=5\/k=6\/k=11\/k=14\/k=15\/k=16
 .exact PD k n m s w c1 (ML c1 h)
 by_cases c2:k=3\/k=7\/k=9\/k=12
 .have h2:=MZ c2 h
  exact PB k n m s w c2 ⟨h2.1,h2.2.1⟩ h2.2.2
 by_cases c3:k=8
 .have h2:=N0 (c3 ▸ h)
  exact Py k n m s w c3 ⟨h2.1,h2.2.1⟩ ⟨h2.2.2.1,h2.2.2.2.1⟩ h2.2.2.2.2
 by_cases c4:k=10\/k=13
 .have h2:=NK c4 h
  exact Pz k n m s w c4 ⟨h2.1,h2.2.1⟩ h2.2.2
 .exact PA k n m s w (by have:=OP h; omega)
def Nw (K N M:Nat->Int) (S:Nat->ByteArray) (i:Nat):ByteArray:=MF (K i) (N i) (M i) (S i)
def Mz (K N M:Nat->Int) (S:Nat->ByteArray):Nat->ByteArray
 | 0=>⟨#[]⟩
 | k+1=>(if k=0 then Mz K N M S k else Mz K N M S k ++ ⟨#[59]⟩) ++ Nw K N M S k
def M0 (len:Nat) (K N M:Nat->Int) (S:Nat->ByteArray):ByteArray:=if nq len K N M S=true then Mz K N M S len else ⟨#[]⟩
def MU {len:Nat} {K N M:Nat->Int} {S:Nat->ByteArray} (h:nq len K N M S=true):1<=len/\len<=20/\ ∀ j,j < len->j8 K N M S j=true:=by
 simp only [nq] at h;exact of_decide_eq_true h
def Nr {k n m:Int} {s:ByteArray} (h:mQ k n m s=true):(MF k n m s).size<=51:=by
 have e1:(⟨#[32]⟩:ByteArray).size=1:=rfl;have s0:=MH k;unfold MF
 split
 .rename_i hk
  have:=ML hk h
  have s1:=MD (n:=n) zo zo;simp only [QH]; omega
 split
 .rename_i hk
  have:=MZ hk h
  exact Zbw
 split
 .rename_i hk
  subst hk
  have:=N0 h
  exact Zbw
 split
 .rename_i hk
  have:=NK hk h
  have s1:=MD (n:=n) zo zo;simp only [QH]; omega
 .omega
def NX {K N M:Nat->Int} {S:Nat->ByteArray} : ∀ k,(∀ j,j < k->j8 K N M S j=true)->(Mz K N M S k).size<=52 * k
 | 0,_=>Ki 0
 | k+1,h=>by
  have ih:=NX k (fun j hj=>h j zo);have ho:(Nw K N M S k).size<=51:=Nr (h k zo);have e1:(⟨#[59]⟩:ByteArray).size=1:=rfl;simp only [Mz]
  split
  .simp only [QH]; omega
  .simp only [QH]; omega
def No (g len cap:Nat) (K N M:Nat->Int) (S:Nat->ByteArray) (w:w_) (hl:len<=1048576) (hs: ∀ i,i < len->(S i).size<=1048576) (hr:iG w g len K N M S):
  k_ J3 47 #[s_ (o_ ⟨g,0,n_⟩) len cap] w fun e w'=>e=r_ (t_ (M0 len K N M S))/\B_ w.heap.size w w':=by
 have HR:bN (iG w g len K N M S):=hr;have HS:bN (∀ i,i < len->(S i).size<=1048576):=hs;clear hr hs
 go_enter func47,ntmps47
 go_wp2_with fail;refine (vv g len cap K N M S w hl HS.I HR.I).mono ?_;rintro e w1 ⟨rfl,hb1⟩;have pG:bN (iG w1 g len K N M S/\B_ w.heap.size w w1):=⟨HR.I.below hb1,hb1⟩
 clear hb1 HR;cases hf:nq len K N M S with
 | false=>
  have HF:bN (nq len K N M S=false):=hf;clear hf;go_wp2;go_ret;exact ⟨by rw [M0,HF.I]; rfl,pG.I.2⟩
 | true=>
  have HF:bN (1<=len/\len<=20/\(∀ j,j < len->j8 K N M S j=true)/\nq len K N M S=true):=⟨(MU hf).1,(MU hf).2.1,(MU hf).2.2,hf⟩
  clear hf;go_wp2_with fail
  go_loopw [3,4] (fun t i wr=> ∃ k:Nat,k<=len/\i=i_ j_ k/\t=t_ (Mz K N M S k)/\bN (B_ w.heap.size w wr/\iG wr g len K N M S)) (fun _ i _=>len - (intOf i).toNat)
  case atStart=>exact ⟨0,Ky _,rfl,rfl,⟨pG.I.2,pG.I.1⟩⟩
  case round=>
   obtain ⟨k,hk,rfl,rfl,HW⟩:=hrel;by_cases hlt:k < len
   .have c0:=HW.I.2.c0 hlt
    have c1:=HW.I.2.c1 hlt;have c2:=HW.I.2.c2 hlt;have c3:=HW.I.2.c3 hlt;have i0:(0:Int)<=(k:Int):=zo
    have i1:(k:Int) < (len:Int):=zo
    have hgl:=HW.I.2.1;have HO:bN (mQ (K k) (N k) (M k) (S k)=true):=HF.I.2.2.1 k hlt;have hts:=NX k (fun j hj=>HF.I.2.2.1 j zo);have hos:=Nr HO.I;have HX:bN (Mz K N M S (k+1)=(if k=0 then Mz K N M S k else Mz K N M S k ++ ⟨#[59]⟩) ++ MF (K k) (N k) (M k) (S k)):=rfl;have hlen:=HF.I.2.1;have q0: ¬ 9223372036854775807 < (Mz K N M S k).size+1:=zo
    have q1: ¬ 9223372036854775807 < (Mz K N M S k).size+1+(MF (K k) (N k) (M k) (S k)).size:=zo
    have q2: ¬ 9223372036854775807 < (Mz K N M S k).size+(MF (K k) (N k) (M k) (S k)).size:=zo
    clear hts hos;generalize Mz K N M S k=t at *;by_cases hk0:k=0
    .have hk1: ¬ (0:Int) < (k:Int):=zo
     have Pf:bN (k=0):=hk0;clear hk0;go_wp2_with fail;refine (NL (K k) (N k) (M k) (S k) wr HO.I).mono ?_;rintro e w2 ⟨rfl,hb2⟩;have HW2:bN (B_ w.heap.size w w2/\iG w2 g len K N M S):=⟨HW.I.1.trans (hb2.mono HW.I.1.size),HW.I.2.below hb2⟩
     clear hb2 c0 c1 c2 c3;go_wp2;go_roundw
     case rel=>exact ⟨k+1,zo,by go_num,by rw [HX.I,if_pos Pf.I],HW2⟩
     case measure=>simp [intOf]; omega
    .have hk1:(0:Int) < (k:Int):=zo
     have Pf:bN (¬ k=0):=hk0;clear hk0;go_wp2_with fail;refine (NL (K k) (N k) (M k) (S k) wr HO.I).mono ?_;rintro e w2 ⟨rfl,hb2⟩;have HW2:bN (B_ w.heap.size w w2/\iG w2 g len K N M S):=⟨HW.I.1.trans (hb2.mono HW.I.1.size),HW.I.2.below hb2⟩
     clear hb2 c0 c1 c2 c3;go_wp2;go_roundw
     case rel=>exact ⟨k+1,zo,by go_num,by rw [HX.I,if_neg Pf.I],HW2⟩
     case measure=>simp [intOf]; omega
   .go_wp2
    go_ret;have e:k=len:=zo
    subst e;exact ⟨by rw [M0,if_pos HF.I.2.2.2]; rfl,HW.I.1⟩
end
def Na {α:Type} (f:α->ByteArray) (l:List α):ByteArray:=l.foldl (fun t x=>t ++ f x) ⟨#[]⟩
def OX {α:Type} {f:α->ByteArray} {l:List α} {k:Nat} {x:α} (h:l[k]? =o_ x):Na f (l.take (k+1))=Na f (l.take k) ++ f x:=by
 have hk:=(Lj.1 h).1;have hx:=(Lj.1 h).2;rw [QE hk,Na,List.foldl_append,hx];rfl
def NN {α:Type} {f:α->ByteArray} {m:Nat} : ∀ (l:List α) (t:ByteArray),(∀ x∈l,(f x).size<=m)->(l.foldl (fun t x=>t ++ f x) t).size<=t.size+m * l.length
 | [],t,_=>by simp
 | x :: r,t,h=>by
  have h1:=NN r (t ++ f x) fun y hy=>h y (LB _ hy)
  have h2:=h x List.mem_cons_self;rw [List.foldl_cons,List.length_cons,Nat.mul_succ];rw [QH] at h1;omega
def Nf {α:Type} {f:α->ByteArray} {m:Nat} {l:List α} (h: ∀ x∈l,(f x).size<=m):(Na f l).size<=m * l.length:=by
 have h1:=NN l ⟨#[]⟩ h;have e:(⟨#[]⟩:ByteArray).size=0:=rfl;unfold Na;omega
def NS (s:ByteArray):ByteArray:=⟨#[59]⟩ ++ s
def MI (l:List ByteArray):ByteArray:=Na NS l
def MJ (b:Bool):Int:=if b then 1 else 0
def Oq (b:Bool):Ij (MJ b)=if b then ⟨#[49]⟩ else ⟨#[48]⟩:=by
 cases b
 .rw [Ij,F7 (by decide),Lib.decDigits,dif_pos (by decide)]
  rfl
 .rw [Ij,F7 (by decide),Lib.decDigits,dif_pos (by decide)]
  rfl
def Ny (s:ByteArray):(NS s).size=1+s.size:=by rw [NS,QH]; rfl
end Go.Proofs.YtfncpmaefninjaaGreatDoor
