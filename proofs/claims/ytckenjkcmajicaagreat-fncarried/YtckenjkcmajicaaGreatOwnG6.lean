/- What the proof leans on, part 6. -/
import Derived.Test.YtckenjkcmajicaaGreatOwnG1
import Derived.Test.YtckenjkcmajicaaGreatOwnG2
import Derived.Lib.ItoaNum
import Derived.Deep.Cut
import Derived.Lib.Join
set_option linter.all false
set_option maxRecDepth 100000
set_option maxHeartbeats 8000000
open Go.Proofs.Tryz
open Go renaming World->w_,Value->v_,Calls->k_,Addr->d_
open Go.Ending renaming returned->r_
open Go.IntKind renaming i64->j_
open Go.Obj renaming cells->c_
open Go.RowKit renaming Below->B_,Hid->da
open Go.Value renaming int->i_,slice->s_,bool->b_,string->t_,agg->a_,tuple->u_
open Option renaming some->o_,none->n_
open Go.Proofs.Tryz renaming prog->J3
open List renaming nil_append->Ll
open Nat renaming mod_lt->adN

open Go.RowKit
namespace Go.Proofs.YtckenjkcmajicaaGreat
section
def Tk (W:w_)(X:Nat)(k:eA):Prop:=W.heap[X]? =o_ (c_ k.row 30)
def Tk.cells {W:w_}{X:Nat}{k:eA}(h:Tk W X k):W.cell? ⟨X,0,n_⟩=o_ (i_ j_ k.bE)/\W.cell? ⟨X,1,n_⟩=o_ (i_ j_ k.major)/\W.cell? ⟨X,2,n_⟩=o_ (s_ k.vb k.fn.length k.Te)/\W.cell? ⟨X,3,n_⟩=o_ (s_ k.qn k.parts.length k.sa)/\W.cell? ⟨X,4,n_⟩=o_ (s_ k.qi k.eC.length k.tC):=by
 unfold Tk at h;simp[World.cell?,h]
structure dr (w:w_)(X:Nat)(k:eA)(W:w_):Prop where
 box:Tk W X k
 MT:eA.At W k
 low:B_ w.heap.size w W
def dr.below {w W W2:w_}{X:Nat}{k:eA}(h:dr w X k W)(hb:B_ W.heap.size W W2):dr w X k W2:=
 ⟨(hb.block _ (J2.1 h.box).1).trans h.box,h.MT.below hb,h.low.trans (hb.mono h.low.size)⟩
def dr.first {w:w_}{k:eA}(h:eA.At w k):dr w w.heap.size k (w.alloc (c_ k.row 30)):=
 ⟨Kj _ _,h.below ((Kp _ _).alloc (Ki _) _),(Kp _ _).alloc (Ki _) _⟩
def sz (l:List pA)(j:Nat):Int:=match l[j/3]?with
 |none=>0
 |some x=>if j%3=0 then x.at_ else if j%3=1 then x.len else x.part
def Vf (l:List pA){j:Nat}(hj:j<l.length*3):(jq.flat l)[j]? =o_ (i_ j_ (sz l j)):=by
 have hd:j/3<l.length:=zw
 obtain⟨x,hx⟩:∃x,l[j/3]? =o_ x:=⟨_,Kz hd⟩
 have h:=jq.jw hx (j:=j%3) (adN _ (by decide));have e:j/3*jq.n+j%3=j:=by show j/3*3+j%3=j;omega
 rw[e]at h;rw[h];unfold sz;rw[hx];have h3:j%3<3:=adN _ (by decide);rcases(by omega:j%3=0\/j%3=1\/j%3=2)with e|e|e<;>rw[e]<;>rfl
def Uq {w:w_}{g:Nat}{l:List pA}(hg:g<w.heap.size)(h:jq.bU w (o_ ⟨g,0,n_⟩) l):lT w g l.length (sz l):=by
 refine⟨hg,λj hj=>?_⟩;obtain⟨g',e,hc⟩:=h.1 j _ (Vf l hj);cases e;exact hc
def E4 (major:Int)(l:List pA):Bool:=nn major l.length (sz l)
def hP {α:Type}(num:α->Int)(id:Int)(l:List α):Option α:=l.find? λx=>decide (num x=id)
def endP (ps:List aE)(part port:Int):Option dS:=(hP (·.id) part ps).bind λp=>hP (·.id) port p.ai
def pa (ps:List aE)(c:eQ):Bool:=match endP ps c.src c.ga,endP ps c.dst c.hI with
 |some q,o_ r=> !decide (c.src=c.dst)&&q.I&& !r.I&&(q.Mf==r.Mf)
 |_,_=>false
def zo (ps:List aE)(c:eQ):Bool:=match endP ps c.src c.ga with
 |some q=>q.Mf
 |none=>false
def hR (ps:List aE)(c d:eQ):Bool:=decide (d.dst=c.dst)&&decide (d.hI=c.hI)||decide (d.src=c.src)&&decide (d.ga=c.ga)&&zo ps c
def fA (ps:List aE):List eQ->List eQ->Bool
 |_,[]=>true
 |l,c::r=>pa ps c&& !l.any (hR ps c)&&fA ps (l++[c]) r
def eP (k:kd):Bool:=cv k.bE 0 500000000&&E4 k.major k.fn&&decide (k.parts.length<=6)&&decide (k.eC.length<=10)&&aw (·.id) bK 0 k.parts&&fA k.parts [] k.eC
section
variable {ps:List aE}
def st:∀(m l r:List eQ),fA ps m (l++r)=(fA ps m l&&fA ps (m++l) r)
 |m,[],r=>by simp[fA]
 |m,c::l,r=>by
  simp only[List.cons_append,fA];rw[st (m++[c]) l r];simp[Bool.and_assoc]
def Tz {l:List eQ}{k:Nat}{c:eQ}(h:fA ps [] (l.take k)=true)(hc:l[k]? =o_ c)(h1:pa ps c=true)(h2:(l.take k).any (hR ps c)=false):fA ps [] (l.take (k+1))=true:=by
 have e:l.take (k+1)=l.take k++[c]:=by rw[List.take_add_one,hc];rfl
 rw[e,st,h,Ll];simp[fA,h1,h2]
def kq {l:List eQ}{k:Nat}{c:eQ}(hc:l[k]? =o_ c)(h:pa ps c=false\/(l.take k).any (hR ps c)=true):fA ps [] l=false:=by
 have hk:k<l.length:=(Lj.1 hc).1;have e:l=l.take k++c::l.drop (k+1):=by
  have h1:=Qn k l;rw[adH hk]at h1;rw[Kz hk]at hc;cases hc;exact h1.symm
 rw[e,st,Ll];simp only[fA];rcases h with h|h<;>simp[h]
end
def ua {α:Type}{num:α->Int}(id:Int):∀(l:List α)(k:Nat),(place (l.map num) id k= -1/\hP num id l=n_)\/ ∃n x,place (l.map num) id k=((k+n:Nat):Int)/\l[n]? =o_ x/\num x=id/\hP num id l=o_ x
 |[],k=>.inl ⟨rfl,rfl⟩
 |y::r,k=>by
  by_cases h:num y=id
  .exact .inr ⟨0,y,by simp[place,h],rfl,h,by simp[hP,h]⟩
  .rcases ua id r (k+1)with⟨h1,h2⟩|⟨n,x,h1,h2,h3,h4⟩
   .exact .inl ⟨by simpa[place,h]using h1,by simp only[hP]at h2⊢;simpa[h]using h2⟩
   .exact .inr ⟨n+1,x,by simp only[Lt,place,h,if_false];rw[h1];congr 1;omega,by simpa using h2,h3,by simp only[hP]at h4⊢;simpa[h]using h4⟩
def Ij (n:Int):ByteArray:=⟨(Lib.itoa n).toArray⟩
def F7 {n:Int}(h:0<=n):Lib.itoa n=Lib.decDigits n.toNat:=by
 unfold Lib.itoa;rw[if_neg zw]
def DX:∀(k u:Nat),u<10^(k+1)->(Lib.decDigits u).length<=k+1
 |0,u,h=>by rw[Lib.decDigits,dif_pos ZdK];simp
 |k+1,u,h=>by
  by_cases h1:u<10
  .rw [Lib.decDigits,dif_pos h1];simp
  .rw [Lib.decDigits,dif_neg h1]
   have:=DX k (u/10) (by rw[Nat.pow_succ]at h;omega)
   simp;omega
def Fk {n:Int}(h:n<=9999999999):(Lib.decDigits n.toNat).length<=10:=DX 9 _ ZbI
def GP {a n:Int}{s:ByteArray}(h10:10<=a)(h:Lib.decDigits a.toNat++s.data.toList=Lib.decDigits n.toNat):
  Lib.decDigits (a/10).toNat++((⟨#[UInt8.ofNat (48+a%10).toNat]⟩:ByteArray)++s).data.toList=Lib.decDigits n.toNat:=by
 rw[<-h,Lib.decDigits.eq_def a.toNat,dif_neg zw];have e1:(a/10).toNat=a.toNat/10:=zw
 have e2:(48+a%10).toNat=48+a.toNat%10:=zw
 simp[e1,e2,ByteArray.data_append]
def Gx (W:w_)(c:Int):(convert 22 9 (s_ (o_ ⟨W.heap.size,0,n_⟩) 1 1)).run J3 (W.alloc (c_ #[i_ .u8 c] 5))=.ok (t_ ⟨#[UInt8.ofNat c.toNat]⟩) (W.alloc (c_ #[i_ .u8 c] 5)):=by
 rw[run_convert_bytes_string _ 22 9 5 _ 1 1 underlying22 underlying5 underlying9];rw[run_bytesToString _ ⟨W.heap.size,0,n_⟩ 1 1 [c] (by simp[go_sem])];rfl
end
def dF (a b:aD):Bool:=if a.RX=b.RX then decide (a.RU<b.RU)else decide (b.RX<a.RX)
def iy (r:Option aD)(x:aD):Option aD:=match r with
 |none=>o_ x
 |some b=>if dF x b then o_ x else o_ b
def jo (l:List aD):Option aD:=l.foldl iy n_
def ny (l:List aD)(x:aD):jo (l++[x])=iy (jo l) x:=by simp[jo]
def zp {r:Option aD}{x y:aD}(h:iy r x=o_ y):y=x\/r=o_ y:=by
 unfold iy at h
 exact Za4
def pN (r:Option aD)(x:aD):∃y,iy r x=o_ y:=by
 unfold iy
 split
 .exact ⟨_,rfl⟩
 .split<;>exact⟨_,rfl⟩
def dO (f:aD->Bool)(l:List aD)(k:Nat)(i:Int):Prop:=match jo ((l.take k).filter f)with
 |none=>i= -1
 |some x=>∃n:Nat,i=n/\n<k/\l[n]? =o_ x
section
variable {f:aD->Bool}{l:List aD}{k:Nat}{i:Int}{x:aD}
def dO.start (f:aD->Bool)(l:List aD):dO f l 0 (-1):=by simp[dO,jo]
def rS (hx:l[k]? =o_ x):(l.take (k+1)).filter f=(l.take k).filter f++(if f x then[x]else[]):=by
 rw[cj hx,QN];by_cases h:f x=true<;>simp[h]
def dO.skip (h:dO f l k i)(hx:l[k]? =o_ x)(hf:f x=false):dO f l (k+1) i:=by
 unfold dO at h⊢;rw[rS hx,hf];exact ZaQ
def dO.first (h:dO f l k i)(hi:i<0)(hx:l[k]? =o_ x)(hf:f x=true):dO f l (k+1) k:=by
 unfold dO at h⊢;rw[rS hx,hf];simp only[if_true];rw[ny]
 exact Za2
def dO.got (h:dO f l k i)(hi:¬i<0):∃(n:Nat)(y:aD),i=n/\n<k/\l[n]? =o_ y/\jo ((l.take k).filter f)=o_ y:=by
 unfold dO at h
 exact Za5
def dO.next {n:Nat}{y:aD}(hn:n<k)(hy:l[n]? =o_ y)(he:jo ((l.take k).filter f)=o_ y)(hx:l[k]? =o_ x)(hf:f x=true):dO f l (k+1) (if dF x y then(k:Int)else(n:Int)):=by
 unfold dO;rw[rS hx,hf];simp only[if_true];rw[ny,he];simp only[iy];by_cases ha:dF x y=true
 .simp only[ha,if_true]
  exact⟨k,rfl,zw,hx⟩
 .simp only[ha,J5,if_false]
  exact⟨n,rfl,zw,hy⟩
end
section
def O4 {a n:Int}{s:ByteArray}(h0:0<=a)(h10:a<10)(h:Lib.decDigits a.toNat++s.data.toList=Lib.decDigits n.toNat)(hn:0<=n):
  (⟨#[UInt8.ofNat (48+a).toNat]⟩:ByteArray)++s=Ij n:=by
 have e2:(48+a).toNat=48+a.toNat:=zw
 apply ByteArray.ext;apply Array.ext';rw[Ij,F7 hn,<-h,Lib.decDigits,dif_pos zw];simp[e2,ByteArray.data_append]
def NT (n:Int)(hn0:0<=n)(hn:n<=9999999999)(w:w_):
  k_ J3 73 #[i_ j_ n] w λe w'=>e=r_ (t_ (Ij n))/\B_ w.heap.size w w':=by
 have h0:¬n<0:=zw
 have hcv:=Gx;have HN:da (0<=n/\n<=9999999999):=⟨hn0,hn⟩
 clear hn0 hn
 go_enter func73,ntmps73
 go_wp2;clear h0
 go_loopw[0,3] (λi t wr=>∃(a:Int)(s:ByteArray),i=i_ j_ a/\t=t_ s/\da (0<=a/\a<=n/\Lib.decDigits a.toNat++s.data.toList=Lib.decDigits n.toNat)/\B_ w.heap.size w wr) (λi _ _=>(intOf i).toNat)
 case atStart=>exact⟨n,⟨#[]⟩,rfl,rfl,⟨HN.I.1,LJ _,zy⟩,Kp _ _⟩
 case round=>
  obtain⟨a,s,rfl,rfl,HD,kj⟩:=hrel;have hs:¬9223372036854775807<1+s.size:=by
   have h1:=congrArg List.length HD.I.2.2;have h2:=Fk HN.I.2;have h3:s.data.toList.length=s.size:=zy
   rw[Lf]at h1;omega
  by_cases h10:10<=a
  .have e1:wrap64 (48+a.tmod 10)%256=48+a%10:=by
    have:=HD.I
    rw[Int.tmod_eq_emod_of_nonneg zw];unfold wrap64;omega
   have e2:a.tdiv 10=a/10:=Int.tdiv_eq_ediv_of_nonneg (by have:=HD.I;omega);have e3:wrap64 (a/10)=a/10:=by have:=HD.I;have:=HN.I;unfold wrap64;omega
   go_wp2;go_roundw
   case rel=>
    refine⟨a/10,_,by rw[e3],rfl,?_,kj.alloc kj.size _⟩;have HD':=HD.I;refine⟨zw,zw,?_⟩;exact GP h10 HD'.2.2
   case measure=>simp only[intOf];have:=HD.I;omega
  .have e1:wrap64 (48+a)%256=48+a:=by have:=HD.I;unfold wrap64;omega
   go_wp2;go_ret;refine⟨?_,kj.alloc kj.size _⟩;have HD':=HD.I;rw[O4 HD'.1 zw HD'.2.2 HN.I.1];rfl
def N2 {n:Int}(h:n<0):Lib.itoa n=45::Lib.decDigits (-n).toNat:=by
 unfold Lib.itoa;rw[if_pos h]
 congr 2
 omega
def Pg {n:Int}(h:n<0):(⟨#[45]⟩:ByteArray)++Ij (-n)=Ij n:=by
 apply ByteArray.ext;apply Array.ext';rw[Ij,Ij,N2 h,F7 zw];simp[ByteArray.data_append]
def MD {n:Int}(h0: -9999999999<=n)(h:n<=9999999999):(Ij n).size<=11:=by
 have e:(Ij n).size=(Lib.itoa n).length:=by simp[Ij,ByteArray.size]
 rw[e];by_cases hn:n<0
 .have:=Fk (n:= -n) zw
  rw[N2 hn];simp;omega
 .have:=Fk h
  rw[F7 zw];omega
def MC (n:Int)(hn0: -9999999999<=n)(hn:n<=9999999999)(w:w_):
  k_ J3 73 #[i_ j_ n] w λe w'=>e=r_ (t_ (Ij n))/\B_ w.heap.size w w':=by
 by_cases h:n<0
 .have e1:wrap64 (-n)= -n:=by unfold wrap64;omega
  have hs:¬9223372036854775807<1+(Ij (-n)).size:=by have:=MD (n:= -n) zw zw;omega
  have h1:0<= -n:=zw
  have h2: -n<=9999999999:=zw
  have e4:=Pg h;clear hn0 hn
  go_enter func73,ntmps73
  go_wp2_with(go_at_call 73;refine(NT (-n) h1 h2 _).mono ?_;rintro e w' ⟨rfl,hb⟩);go_ret;exact⟨by first|rfl|(rw[e4];rfl),hb⟩
 .exact NT n zw hn w
def ME (k:Int):ByteArray:=
 if k=1 then⟨#[114,117,110]⟩else if k=2 then⟨#[115,108,101,101,112]⟩else if k=3 then⟨#[119,97,105,116]⟩
 else if k=4 then⟨#[115,105,103,110,97,108]⟩else if k=5 then⟨#[115,101,116]⟩else if k=6 then⟨#[114,101,115,101,116]⟩
 else if k=7 then⟨#[97,119,97,105,116]⟩else if k=8 then⟨#[115,101,110,100]⟩else if k=9 then⟨#[116,97,107,101]⟩
 else if k=10 then⟨#[115,104,111,119]⟩else if k=11 then⟨#[99,108,101,97,114]⟩else if k=12 then⟨#[114,101,97,100]⟩
 else if k=13 then⟨#[119,114,105,116,101]⟩else if k=14 then⟨#[102,101,116,99,104]⟩else if k=15 then⟨#[115,116,97,114,116]⟩
 else if k=16 then⟨#[115,116,111,112]⟩else if k=17 then⟨#[108,111,111,112]⟩else⟨#[]⟩
def MF (k n m:Int)(s:ByteArray):ByteArray:=
 if k=1\/k=2\/k=4\/k=5\/k=6\/k=11\/k=14\/k=15\/k=16 then ME k++⟨#[32]⟩++Ij n
 else if k=3\/k=7\/k=9\/k=12 then ME k++⟨#[32]⟩++Ij n++⟨#[32]⟩++Ij m
 else if k=8 then ME k++⟨#[32]⟩++Ij n++⟨#[32]⟩++Ij m++⟨#[32]⟩++s
 else if k=10\/k=13 then ME k++⟨#[32]⟩++Ij n++⟨#[32]⟩++s
 else ME k
def M3 (w:w_)(g:Nat):Prop:=g<w.heap.size/\∀k:Nat,k<=17->w.cell? ⟨g,k,n_⟩=o_ (t_ (ME k))
def M3.below {w w':w_}{g:Nat}(h:M3 w g)(hb:B_ w.heap.size w w'):M3 w' g:=
 ⟨Kn h.1 hb.size,λk hk=>(hb.cell (p:=⟨g,k,n_⟩) h.1).trans (h.2 k hk)⟩
def MG (w:w_):k_ J3 155 #[] w λe w'=>e=r_ (s_ (o_ ⟨w.heap.size,0,n_⟩) 18 18)/\M3 w' w.heap.size/\B_ w.heap.size w w':=by
 go_enter func155,ntmps155
 go_wp2;go_ret;refine⟨rfl,⟨zy,?_⟩,Zck⟩;intro k hk;have h:k=0\/k=1\/k=2\/k=3\/k=4\/k=5\/k=6\/k=7\/k=8\/k=9\/k=10\/k=11\/k=12\/k=13\/k=14\/k=15\/k=16\/k=17:=zw
 rcases h with rfl|rfl|rfl|rfl|rfl|rfl|rfl|rfl|rfl|rfl|rfl|rfl|rfl|rfl|rfl|rfl|rfl|rfl<;>simp[ME]
def O1 {p:Prop}[Decidable p]{a b:ByteArray}{n:Nat}(ha:a.size<=n)(hb:b.size<=n):(if p then a else b).size<=n:=by split<;>assumption
def MH (k:Int):(ME k).size<=6:=by
 unfold ME
 repeat (first|decide|refine O1 (by decide) ?_)
def M3.one {w:w_}{g:Nat}(h:M3 w g)(k:Nat)(hk:k<=17):w.cell? ⟨g,k,n_⟩=o_ (t_ (ME k)):=h.2 k hk
def OP {k n m:Int}{s:ByteArray}(h:mQ k n m s=true):k=1\/k=2\/k=3\/k=4\/k=5\/k=6\/k=7\/k=8\/k=9\/k=10\/k=11\/k=12\/k=13\/k=14\/k=15\/k=16\/k=17:=by
 unfold mQ at h
 split at h
 .omega
 split at h
 .omega
 split at h
 .omega
 split at h
 .omega
 split at h
 .omega
 .cases h
def MK {n lo hi:Int}(h:cv n lo hi=true):lo<=n/\n<=hi:=by simpa[cv]using h
def Nq {s:ByteArray}(h:bw s=true):s.size<=20:=by
 simp only[bw,J7,decide_eq_true_eq]at h;exact h.1
def ML {k n m:Int}{s:ByteArray}(hk:k=1\/k=2\/k=4\/k=5\/k=6\/k=11\/k=14\/k=15\/k=16)(h:mQ k n m s=true):1<=n/\n<=1000:=by
 unfold mQ at h;rw[if_pos hk]at h;simp only[J7]at h;exact MK h.1.1
def MZ {k n m:Int}{s:ByteArray}(hk:k=3\/k=7\/k=9\/k=12)(h:mQ k n m s=true):1<=n/\n<=1000/\ -1<=m/\m<=1000:=by
 unfold mQ at h;rw[if_neg zw,if_pos hk]at h;simp only[J7]at h;exact⟨(MK h.1.1).1,(MK h.1.1).2,(MK h.1.2).1,(MK h.1.2).2⟩
def N0 {n m:Int}{s:ByteArray}(h:mQ 8 n m s=true):1<=n/\n<=1000/\ -1<=m/\m<=1000/\s.size<=20:=by
 unfold mQ at h;rw[if_neg zw,if_neg zw,if_pos rfl]at h;simp only[J7]at h;exact⟨(MK h.1.1).1,(MK h.1.1).2,(MK h.1.2).1,(MK h.1.2).2,Nq h.2⟩
def NK {k n m:Int}{s:ByteArray}(hk:k=10\/k=13)(h:mQ k n m s=true):1<=n/\n<=1000/\s.size<=20:=by
 unfold mQ at h;rw[if_neg zw,if_neg zw,if_neg zw,if_pos hk]at h;simp only[J7]at h;exact⟨(MK h.1.1).1,(MK h.1.1).2,Nq h.2⟩
structure Px (w:w_)(k n m:Int)(s:ByteArray)(W:w_):Prop where
 box:W.heap[w.heap.size]? =o_ (c_ #[i_ j_ k,i_ j_ n,i_ j_ m,t_ s] 217)
 low:B_ w.heap.size w W
section
variable {w W W2:w_}{k n m:Int}{s:ByteArray}
def Px.below (h:Px w k n m s W)(hb:B_ W.heap.size W W2):Px w k n m s W2:=⟨(hb.block _ (J2.1 h.box).1).trans h.box,h.low.trans (hb.mono h.low.size)⟩
def Px.cells (h:Px w k n m s W):W.cell? ⟨w.heap.size,0,n_⟩=o_ (i_ j_ k)/\W.cell? ⟨w.heap.size,1,n_⟩=o_ (i_ j_ n)/\W.cell? ⟨w.heap.size,2,n_⟩=o_ (i_ j_ m)/\W.cell? ⟨w.heap.size,3,n_⟩=o_ (t_ s):=by
 simp[World.cell?,h.box]
end
def PD (k n m:Int)(s:ByteArray)(w:w_)(hk:k=1\/k=2\/k=4\/k=5\/k=6\/k=11\/k=14\/k=15\/k=16)(h1:1<=n/\n<=1000):
  k_ J3 117 #[a_ #[i_ j_ k,i_ j_ n,i_ j_ m,t_ s]] w λe w'=>e=r_ (t_ (MF k n m s))/\B_ w.heap.size w w':=by
 have HT:da (MF k n m s=ME k++⟨#[32]⟩++Ij n):=by
  show _=_
  rcases hk with rfl|rfl|rfl|rfl|rfl|rfl|rfl|rfl|rfl<;>rfl
 have k0:0<=k:=zw
 have k1:k<18:=zw
 have HK:da (k<=17/\((k.toNat:Nat):Int)=k):=⟨zw,zw⟩
 have z0:=MH k;generalize hN:ME k=N at*;have M9:da (ME k=N):=hN;clear hN;have z1:=MD (n:=n) zw zw;have q0:¬9223372036854775807<N.size+1:=zw
 have q1:¬9223372036854775807<N.size+1+(Ij n).size:=zw
 have HN:da (-9999999999<=n/\n<=9999999999):=⟨zw,zw⟩
 have PH:(k==17)=false:=ZbI
 have e3:(k==3)=false:=ZbI
 have e7:(k==7)=false:=ZbI
 have e9:(k==9)=false:=ZbI
 have PF:(k==12)=false:=ZbI
 have e8:(k==8)=false:=ZbI
 have Pn:(k==10)=false:=ZbI
 have PG:(k==13)=false:=ZbI
 have S:da (Px w k n m s (w.alloc (c_ #[i_ j_ k,i_ j_ n,i_ j_ m,t_ s] 217))):=⟨Kj _ _,(Kp _ _).alloc (Ki _) _⟩
 clear hk z0 z1 h1
 go_enter func117,ntmps117
 go_upto_region 1 with fail;generalize w.alloc (c_ #[i_ j_ k,i_ j_ n,i_ j_ m,t_ s] 217)=A at*;replace S:da (Px w k n m s _):=S.I.below (Kp _ _).drew;refine Kr (S:=λW=>Px w k n m s W) ZbG S.I (λ_=>?_);generalize World.drew _=V at*;refine tt 1 S.I ?_ (hy:=λw0 hS0=>ZbP);refine tt 2 S.I ?_ (hy:=λw0 hS0=>ZbP);refine L7 0 (λK hK=>?_);go_wp2_with fail;refine(MG V).mono ?_;rintro e W1 ⟨rfl,hn,hb⟩;have n0:W1.cell? ⟨V.heap.size,k.toNat,n_⟩=o_ (t_ N):=Zb0
 replace S:da (Px w k n m s _):=S.I.below hb;clear hb hn;refine hK.out _ _ S.I (λ_=>?_);clear hK K
 try simp only[pt,sb,s0,s1]
 refine tt 3 S.I ?_;refine L7 4 (λK hK=>?_);go_wp2;refine hK.out _ _ S.I (λ_=>?_);clear hK K n0
 try simp only[pt,sb,s0,s1]
 refine tt 5 S.I ?_;refine K3 ZbG ?_ _;obtain⟨b0,b1,b2,b3⟩:=S.I.cells;go_wp2_with fail;refine(MC n HN.I.1 HN.I.2 _).mono ?_;rintro e W2 ⟨rfl,hb⟩;replace S:da (Px w k n m s _):=S.I.below hb;clear hb b0 b1 b2 b3;obtain⟨b0,b1,b2,b3⟩:=S.I.cells;exact AD
def PB (k n m:Int)(s:ByteArray)(w:w_)(hk:k=3\/k=7\/k=9\/k=12)(h1:1<=n/\n<=1000)(h2: -1<=m/\m<=1000):
  k_ J3 117 #[a_ #[i_ j_ k,i_ j_ n,i_ j_ m,t_ s]] w λe w'=>e=r_ (t_ (MF k n m s))/\B_ w.heap.size w w':=by
 have HT:da (MF k n m s=ME k++⟨#[32]⟩++Ij n++⟨#[32]⟩++Ij m):=by
  show _=_
  rcases hk with rfl|rfl|rfl|rfl<;>rfl
 have k0:0<=k:=zw
 have k1:k<18:=zw
 have HK:da (k<=17/\((k.toNat:Nat):Int)=k):=⟨zw,zw⟩
 have z0:=MH k;generalize hN:ME k=N at*;have M9:da (ME k=N):=hN;clear hN;have z1:=MD (n:=n) zw zw;have z2:=MD (n:=m) zw zw;have q0:¬9223372036854775807<N.size+1:=zw
 have q1:¬9223372036854775807<N.size+1+(Ij n).size:=zw
 have q2:¬9223372036854775807<N.size+1+(Ij n).size+1:=zw
 have q3:¬9223372036854775807<N.size+1+(Ij n).size+1+(Ij m).size:=zw
 have HN:da (-9999999999<=n/\n<=9999999999):=⟨zw,zw⟩
 have HM:da (-9999999999<=m/\m<=9999999999):=⟨zw,zw⟩
 have PH:(k==17)=false:=ZbI
 have e8:(k==8)=false:=ZbI
 have Pn:(k==10)=false:=ZbI
 have PG:(k==13)=false:=ZbI
 have S:da (Px w k n m s (w.alloc (c_ #[i_ j_ k,i_ j_ n,i_ j_ m,t_ s] 217))):=⟨Kj _ _,(Kp _ _).alloc (Ki _) _⟩
 have HKK:da _:=hk;clear hk z0 z1 h1 z2 h2
 go_enter func117,ntmps117
 go_upto_region 1 with fail;generalize w.alloc (c_ #[i_ j_ k,i_ j_ n,i_ j_ m,t_ s] 217)=A at*;replace S:da (Px w k n m s _):=S.I.below (Kp _ _).drew;refine Kr (S:=λW=>Px w k n m s W) ZbG S.I (λ_=>?_);generalize World.drew _=V at*;refine tt 1 S.I ?_ (hy:=λw0 hS0=>ZbP);refine tt 2 S.I ?_ (hy:=λw0 hS0=>ZbP);refine L7 0 (λK hK=>?_);go_wp2_with fail;refine(MG V).mono ?_;rintro e W1 ⟨rfl,hn,hb⟩;have n0:W1.cell? ⟨V.heap.size,k.toNat,n_⟩=o_ (t_ N):=Zb0
 replace S:da (Px w k n m s _):=S.I.below hb;clear hb hn;refine hK.out _ _ S.I (λ_=>?_);clear hK K
 try simp only[pt,sb,s0,s1]
 refine tt 3 S.I ?_;refine L7 4 (λK hK=>?_);go_wp2;refine hK.out _ _ S.I (λ_=>?_);clear hK K n0
 try simp only[pt,sb,s0,s1]
 refine tt 5 S.I ?_;refine K3 ZbG ?_ _;obtain⟨b0,b1,b2,b3⟩:=S.I.cells;go_wp2_with fail;refine(MC n HN.I.1 HN.I.2 _).mono ?_;rintro e W2 ⟨rfl,hb⟩;replace S:da (Px w k n m s _):=S.I.below hb;clear hb b0 b1 b2 b3;obtain⟨b0,b1,b2,b3⟩:=S.I.cells;rcases HKK.I with hk|hk|hk|hk
 .skip
  have e3:(k==3)=true:=ZcP
  have e7:(k==7)=false:=ZcP
  have e9:(k==9)=false:=ZcP
  exact ZbB
 .skip
  have e3:(k==3)=false:=ZcP
  have e7:(k==7)=true:=ZcP
  have e9:(k==9)=false:=ZcP
  exact ZbB
 .skip
  have e3:(k==3)=false:=ZcP
  have e7:(k==7)=false:=ZcP
  have e9:(k==9)=true:=ZcP
  exact ZbB
 .skip
  have e3:(k==3)=false:=ZcP
  have e7:(k==7)=false:=ZcP
  have e9:(k==9)=false:=ZcP
  have PF:(k==12)=true:=ZcP
  exact rg
def Py (k n m:Int)(s:ByteArray)(w:w_)(hk:k=8)(h1:1<=n/\n<=1000)(h2: -1<=m/\m<=1000)(h3:s.size<=20):
  k_ J3 117 #[a_ #[i_ j_ k,i_ j_ n,i_ j_ m,t_ s]] w λe w'=>e=r_ (t_ (MF k n m s))/\B_ w.heap.size w w':=by
 have HT:da (MF k n m s=ME k++⟨#[32]⟩++Ij n++⟨#[32]⟩++Ij m++⟨#[32]⟩++s):=by
  show _=_
  subst hk;rfl
 have k0:0<=k:=zw
 have k1:k<18:=zw
 have HK:da (k<=17/\((k.toNat:Nat):Int)=k):=⟨zw,zw⟩
 have z0:=MH k;generalize hN:ME k=N at*;have M9:da (ME k=N):=hN;clear hN;have z1:=MD (n:=n) zw zw;have z2:=MD (n:=m) zw zw;have q0:¬9223372036854775807<N.size+1:=zw
 have q1:¬9223372036854775807<N.size+1+(Ij n).size:=zw
 have q2:¬9223372036854775807<N.size+1+(Ij n).size+1:=zw
 have q3:¬9223372036854775807<N.size+1+(Ij n).size+1+(Ij m).size:=zw
 have q4:¬9223372036854775807<N.size+1+(Ij n).size+1+(Ij m).size+1:=zw
 have q5:¬9223372036854775807<N.size+1+(Ij n).size+1+(Ij m).size+1+s.size:=zw
 have HN:da (-9999999999<=n/\n<=9999999999):=⟨zw,zw⟩
 have HM:da (-9999999999<=m/\m<=9999999999):=⟨zw,zw⟩
 have PH:(k==17)=false:=ZbI
 have e3:(k==3)=false:=ZbI
 have e7:(k==7)=false:=ZbI
 have e9:(k==9)=false:=ZbI
 have PF:(k==12)=false:=ZbI
 have e8:(k==8)=true:=ZcP
 have Pn:(k==10)=false:=ZbI
 have PG:(k==13)=false:=ZbI
 have S:da (Px w k n m s (w.alloc (c_ #[i_ j_ k,i_ j_ n,i_ j_ m,t_ s] 217))):=⟨Kj _ _,(Kp _ _).alloc (Ki _) _⟩
 clear hk z0 z1 h1 z2 h2 h3
 go_enter func117,ntmps117
 go_upto_region 1 with fail;generalize w.alloc (c_ #[i_ j_ k,i_ j_ n,i_ j_ m,t_ s] 217)=A at*;replace S:da (Px w k n m s _):=S.I.below (Kp _ _).drew;refine Kr (S:=λW=>Px w k n m s W) ZbG S.I (λ_=>?_);generalize World.drew _=V at*;refine tt 1 S.I ?_ (hy:=λw0 hS0=>ZbP);refine tt 2 S.I ?_ (hy:=λw0 hS0=>ZbP);refine L7 0 (λK hK=>?_);go_wp2_with fail;refine(MG V).mono ?_;rintro e W1 ⟨rfl,hn,hb⟩;have n0:W1.cell? ⟨V.heap.size,k.toNat,n_⟩=o_ (t_ N):=Zb0
 replace S:da (Px w k n m s _):=S.I.below hb;clear hb hn;refine hK.out _ _ S.I (λ_=>?_);clear hK K
 try simp only[pt,sb,s0,s1]
 refine tt 3 S.I ?_;refine L7 4 (λK hK=>?_);go_wp2;refine hK.out _ _ S.I (λ_=>?_);clear hK K n0
 try simp only[pt,sb,s0,s1]
 refine tt 5 S.I ?_;refine K3 ZbG ?_ _;obtain⟨b0,b1,b2,b3⟩:=S.I.cells;go_wp2_with fail;refine(MC n HN.I.1 HN.I.2 _).mono ?_;rintro e W2 ⟨rfl,hb⟩;replace S:da (Px w k n m s _):=S.I.below hb;clear hb b0 b1 b2 b3;obtain⟨b0,b1,b2,b3⟩:=S.I.cells;go_upto_region 12 with fail;replace S:da (Px w k n m s _):=S.I.below (Kp _ _).drew;clear b0 b1 b2 b3;refine Kr (S:=λW=>Px w k n m s W) ZbG S.I (λ_=>?_);generalize World.drew _=V2 at*;refine tt 0 S.I ?_ (hy:=λw0 hS0=>ZbY);refine tt 1 S.I ?_ (hy:=λw0 hS0=>ZbY);refine tt 2 S.I ?_ (hy:=λw0 hS0=>ZbY);refine tt 3 S.I ?_ (hy:=λw0 hS0=>ZbY);refine tt 7 S.I ?_ (hy:=λw0 hS0=>ZbY);refine tt 8 S.I ?_ (hy:=λw0 hS0=>ZbY);refine L7 4 (λK hK=>?_);go_wp2_with fail;refine(MC m HM.I.1 HM.I.2 _).mono ?_;rintro e W3 ⟨rfl,hb⟩;replace S:da (Px w k n m s _):=S.I.below hb;clear hb;refine hK.out _ _ S.I (λ_=>?_);clear hK K
 try simp only[pt,sb,s0,s1]
 refine tt 5 S.I ?_;refine tt 6 S.I ?_;refine tt 9 S.I ?_;refine tt 10 S.I ?_;refine K3 ZbG ?_ _;exact AD
def Pz (k n m:Int)(s:ByteArray)(w:w_)(hk:k=10\/k=13)(h1:1<=n/\n<=1000)(h3:s.size<=20):
  k_ J3 117 #[a_ #[i_ j_ k,i_ j_ n,i_ j_ m,t_ s]] w λe w'=>e=r_ (t_ (MF k n m s))/\B_ w.heap.size w w':=by
 have HT:da (MF k n m s=ME k++⟨#[32]⟩++Ij n++⟨#[32]⟩++s):=by
  show _=_
  rcases hk with rfl|rfl<;>rfl
 have k0:0<=k:=zw
 have k1:k<18:=zw
 have HK:da (k<=17/\((k.toNat:Nat):Int)=k):=⟨zw,zw⟩
 have z0:=MH k;generalize hN:ME k=N at*;have M9:da (ME k=N):=hN;clear hN;have z1:=MD (n:=n) zw zw;have q0:¬9223372036854775807<N.size+1:=zw
 have q1:¬9223372036854775807<N.size+1+(Ij n).size:=zw
 have q2:¬9223372036854775807<N.size+1+(Ij n).size+1:=zw
 have q3:¬9223372036854775807<N.size+1+(Ij n).size+1+s.size:=zw
 have HN:da (-9999999999<=n/\n<=9999999999):=⟨zw,zw⟩
 have PH:(k==17)=false:=ZbI
 have e3:(k==3)=false:=ZbI
 have e7:(k==7)=false:=ZbI
 have e9:(k==9)=false:=ZbI
 have PF:(k==12)=false:=ZbI
 have e8:(k==8)=false:=ZbI
 have S:da (Px w k n m s (w.alloc (c_ #[i_ j_ k,i_ j_ n,i_ j_ m,t_ s] 217))):=⟨Kj _ _,(Kp _ _).alloc (Ki _) _⟩
 have HKK:da _:=hk;clear hk z0 z1 h1 h3
 go_enter func117,ntmps117
 go_upto_region 1 with fail;generalize w.alloc (c_ #[i_ j_ k,i_ j_ n,i_ j_ m,t_ s] 217)=A at*;replace S:da (Px w k n m s _):=S.I.below (Kp _ _).drew;refine Kr (S:=λW=>Px w k n m s W) ZbG S.I (λ_=>?_);generalize World.drew _=V at*;refine tt 1 S.I ?_ (hy:=λw0 hS0=>ZbP);refine tt 2 S.I ?_ (hy:=λw0 hS0=>ZbP);refine L7 0 (λK hK=>?_);go_wp2_with fail;refine(MG V).mono ?_;rintro e W1 ⟨rfl,hn,hb⟩;have n0:W1.cell? ⟨V.heap.size,k.toNat,n_⟩=o_ (t_ N):=Zb0
 replace S:da (Px w k n m s _):=S.I.below hb;clear hb hn;refine hK.out _ _ S.I (λ_=>?_);clear hK K
 try simp only[pt,sb,s0,s1]
 refine tt 3 S.I ?_;refine L7 4 (λK hK=>?_);go_wp2;refine hK.out _ _ S.I (λ_=>?_);clear hK K n0
 try simp only[pt,sb,s0,s1]
 refine tt 5 S.I ?_;refine K3 ZbG ?_ _;obtain⟨b0,b1,b2,b3⟩:=S.I.cells;go_wp2_with fail;refine(MC n HN.I.1 HN.I.2 _).mono ?_;rintro e W2 ⟨rfl,hb⟩;replace S:da (Px w k n m s _):=S.I.below hb;clear hb b0 b1 b2 b3;obtain⟨b0,b1,b2,b3⟩:=S.I.cells;rcases HKK.I with hk|hk
 .have Pn:(k==10)=true:=by simp[hk]
  have PG:(k==13)=false:=ZcP
  clear hk;exact AD
 .have Pn:(k==10)=false:=by simp[hk]
  have PG:(k==13)=true:=ZcP
  clear hk;exact AD
def PA (k n m:Int)(s:ByteArray)(w:w_)(hk:k=17):
  k_ J3 117 #[a_ #[i_ j_ k,i_ j_ n,i_ j_ m,t_ s]] w λe w'=>e=r_ (t_ (MF k n m s))/\B_ w.heap.size w w':=by
 have HT:da (MF k n m s=ME k):=by
  show _=_
  subst hk;rfl
 have k0:0<=k:=zw
 have k1:k<18:=zw
 have HK:da (k<=17/\((k.toNat:Nat):Int)=k):=⟨zw,zw⟩
 have z0:=MH k;generalize hN:ME k=N at*;have M9:da (ME k=N):=hN;clear hN;have PH:(k==17)=true:=ZcP
 have e3:(k==3)=false:=ZbI
 have e7:(k==7)=false:=ZbI
 have e9:(k==9)=false:=ZbI
 have PF:(k==12)=false:=ZbI
 have e8:(k==8)=false:=ZbI
 have Pn:(k==10)=false:=ZbI
 have PG:(k==13)=false:=ZbI
 have S:da (Px w k n m s (w.alloc (c_ #[i_ j_ k,i_ j_ n,i_ j_ m,t_ s] 217))):=⟨Kj _ _,(Kp _ _).alloc (Ki _) _⟩
 clear hk z0
 go_enter func117,ntmps117
 go_upto_region 1 with fail;generalize w.alloc (c_ #[i_ j_ k,i_ j_ n,i_ j_ m,t_ s] 217)=A at*;replace S:da (Px w k n m s _):=S.I.below (Kp _ _).drew;refine Kr (S:=λW=>Px w k n m s W) ZbG S.I (λ_=>?_);generalize World.drew _=V at*;refine tt 1 S.I ?_ (hy:=λw0 hS0=>ZbP);refine tt 2 S.I ?_ (hy:=λw0 hS0=>ZbP);refine L7 0 (λK hK=>?_);go_wp2_with fail;refine(MG V).mono ?_;rintro e W1 ⟨rfl,hn,hb⟩;have n0:W1.cell? ⟨V.heap.size,k.toNat,n_⟩=o_ (t_ N):=Zb0
 replace S:da (Px w k n m s _):=S.I.below hb;clear hb hn;refine hK.out _ _ S.I (λ_=>?_);clear hK K
 try simp only[pt,sb,s0,s1]
 refine tt 3 S.I ?_;refine L7 4 (λK hK=>?_);go_wp2;refine hK.out _ _ S.I (λ_=>?_);clear hK K n0
 try simp only[pt,sb,s0,s1]
 refine tt 5 S.I ?_;refine K3 ZbG ?_ _;obtain⟨b0,b1,b2,b3⟩:=S.I.cells;exact AD
def NL (k n m:Int)(s:ByteArray)(w:w_)(h:mQ k n m s=true):
  k_ J3 117 #[a_ #[i_ j_ k,i_ j_ n,i_ j_ m,t_ s]] w λe w'=>e=r_ (t_ (MF k n m s))/\B_ w.heap.size w w':=by
 by_cases c1:k=1\/k=2\/k=4\/k=5\/k=6\/k=11\/k=14\/k=15\/k=16
 .exact PD k n m s w c1 (ML c1 h)
 by_cases c2:k=3\/k=7\/k=9\/k=12
 .have h2:=MZ c2 h
  exact PB k n m s w c2 ⟨h2.1,h2.2.1⟩ h2.2.2
 by_cases c3:k=8
 .have h2:=N0 (c3▸h)
  exact Py k n m s w c3 ⟨h2.1,h2.2.1⟩ ⟨h2.2.2.1,h2.2.2.2.1⟩ h2.2.2.2.2
 by_cases c4:k=10\/k=13
 .have h2:=NK c4 h
  exact Pz k n m s w c4 ⟨h2.1,h2.2.1⟩ h2.2.2
 .exact PA k n m s w (by have:=OP h;omega)
section
variable {cs:List eQ}{q:eQ->Bool}{part:Int}
end
def Xo {k:kd}(h:eP k=true):(k.parts.map (·.id)).Pairwise (· < ·)/\k.parts.length<=6/\k.eC.length<=10/\∀c∈k.eC,pa k.parts c=true:=by
 simp only[eP,J7,decide_eq_true_eq]at h;refine⟨?_,h.1.1.1.2,h.1.1.2,?_⟩
 .have key:∀(l:List aE)(last:Int),aw (·.id) bK last l=true->(l.map (·.id)).Pairwise (· < ·)/\∀x∈l,last<x.id:=by
   intro l
   induction l with
   |nil=>exactλ_ _=>⟨List.Pairwise.nil,λx hx=>Zcl⟩
   |cons x r ih=>
    intro last h;simp only[aw,J7,decide_eq_true_eq]at h;obtain⟨h1,h2⟩:=ih _ h.2;refine⟨List.Pairwise.cons (λy hy=>?_) h1,λy hy=>?_⟩
    .obtain ⟨z,hz,rfl⟩:=Lr.1 hy
     exact h2 z hz
    .exact Za8
  exact(key _ _ h.1.2).1
 .have key:∀(r m:List eQ),fA k.parts m r=true->∀c∈r,pa k.parts c=true:=by
   intro r
   induction r with
   |nil=>intro m _ c hc;cases hc
   |cons x r ih=>
    intro m h c hc;simp only[fA,J7]at h;rcases Kt.1 hc with rfl|hc
    .exact h.1.1
    .exact ih _ h.2 c hc
  exact key _ _ h.2
def Nw (K N M:Nat->Int)(S:Nat->ByteArray)(i:Nat):ByteArray:=MF (K i) (N i) (M i) (S i)
def Mz (K N M:Nat->Int)(S:Nat->ByteArray):Nat->ByteArray
 |0=>⟨#[]⟩
 |k+1=>(if k=0 then Mz K N M S k else Mz K N M S k++⟨#[59]⟩)++Nw K N M S k
def M0 (len:Nat)(K N M:Nat->Int)(S:Nat->ByteArray):ByteArray:=if nq len K N M S=true then Mz K N M S len else⟨#[]⟩
def MU {len:Nat}{K N M:Nat->Int}{S:Nat->ByteArray}(h:nq len K N M S=true):1<=len/\len<=20/\∀j,j<len->j8 K N M S j=true:=by
 simp only[nq]at h;exact of_decide_eq_true h
def Nr {k n m:Int}{s:ByteArray}(h:mQ k n m s=true):(MF k n m s).size<=51:=by
 have e1:(⟨#[32]⟩:ByteArray).size=1:=rfl;have s0:=MH k;unfold MF
 split
 .rename_i hk
  have:=ML hk h
  have s1:=MD (n:=n) zw zw;simp only[QH];omega
 split
 .rename_i hk
  have:=MZ hk h
  exact ZaW
 split
 .rename_i hk
  subst hk
  have:=N0 h
  exact ZaW
 split
 .rename_i hk
  have:=NK hk h
  have s1:=MD (n:=n) zw zw;simp only[QH];omega
 .omega
def NX {K N M:Nat->Int}{S:Nat->ByteArray}:∀k,(∀j,j<k->j8 K N M S j=true)->(Mz K N M S k).size<=52*k
 |0,_=>Ki 0
 |k+1,h=>by
  have ih:=NX k (λj hj=>h j zw);have ho:(Nw K N M S k).size<=51:=Nr (h k zw);have e1:(⟨#[59]⟩:ByteArray).size=1:=rfl;simp only[Mz]
  split
  .simp only[QH];omega
  .simp only[QH];omega
def No (g len cap:Nat)(K N M:Nat->Int)(S:Nat->ByteArray)(w:w_)(hl:len<=1048576)(hs:∀i,i<len->(S i).size<=1048576)(hr:iG w g len K N M S):
  k_ J3 74 #[s_ (o_ ⟨g,0,n_⟩) len cap] w λe w'=>e=r_ (t_ (M0 len K N M S))/\B_ w.heap.size w w':=by
 have HR:da (iG w g len K N M S):=hr;have HS:da (∀i,i<len->(S i).size<=1048576):=hs;clear hr hs
 go_enter func74,ntmps74
 go_wp2_with fail;refine(vv g len cap K N M S w hl HS.I HR.I).mono ?_;rintro e w1 ⟨rfl,hb1⟩;have pG:da (iG w1 g len K N M S/\B_ w.heap.size w w1):=⟨HR.I.below hb1,hb1⟩
 clear hb1 HR;cases hf:nq len K N M S with
 |false=>
  have HF:da (nq len K N M S=false):=hf;clear hf;go_wp2;go_ret;exact⟨by rw[M0,HF.I];rfl,pG.I.2⟩
 |true=>
  have HF:da (1<=len/\len<=20/\(∀j,j<len->j8 K N M S j=true)/\nq len K N M S=true):=⟨(MU hf).1,(MU hf).2.1,(MU hf).2.2,hf⟩
  clear hf;go_wp2_with fail
  go_loopw[3,4] (λt i wr=>∃k:Nat,k<=len/\i=i_ j_ k/\t=t_ (Mz K N M S k)/\da (B_ w.heap.size w wr/\iG wr g len K N M S)) (λ_ i _=>len-(intOf i).toNat)
  case atStart=>exact⟨0,Ky _,rfl,rfl,⟨pG.I.2,pG.I.1⟩⟩
  case round=>
   obtain⟨k,hk,rfl,rfl,HW⟩:=hrel;by_cases hlt:k<len
   .have c0:=HW.I.2.c0 hlt
    have c1:=HW.I.2.c1 hlt;have c2:=HW.I.2.c2 hlt;have c3:=HW.I.2.c3 hlt;have i0:(0:Int)<=(k:Int):=zw
    have i1:(k:Int)<(len:Int):=zw
    have hgl:=HW.I.2.1;have HO:da (mQ (K k) (N k) (M k) (S k)=true):=HF.I.2.2.1 k hlt;have hts:=NX k (λj hj=>HF.I.2.2.1 j zw);have hos:=Nr HO.I;have HX:da (Mz K N M S (k+1)=(if k=0 then Mz K N M S k else Mz K N M S k++⟨#[59]⟩)++MF (K k) (N k) (M k) (S k)):=rfl;have hlen:=HF.I.2.1;have q0:¬9223372036854775807<(Mz K N M S k).size+1:=zw
    have q1:¬9223372036854775807<(Mz K N M S k).size+1+(MF (K k) (N k) (M k) (S k)).size:=zw
    have q2:¬9223372036854775807<(Mz K N M S k).size+(MF (K k) (N k) (M k) (S k)).size:=zw
    clear hts hos;generalize Mz K N M S k=t at*;by_cases hk0:k=0
    .have hk1:¬(0:Int)<(k:Int):=zw
     have Pf:da (k=0):=hk0;clear hk0;go_wp2_with fail;refine(NL (K k) (N k) (M k) (S k) wr HO.I).mono ?_;rintro e w2 ⟨rfl,hb2⟩;have HW2:da (B_ w.heap.size w w2/\iG w2 g len K N M S):=⟨HW.I.1.trans (hb2.mono HW.I.1.size),HW.I.2.below hb2⟩
     clear hb2 c0 c1 c2 c3;go_wp2;go_roundw
     case rel=>exact⟨k+1,zw,by go_num,by rw[HX.I,if_pos Pf.I],HW2⟩
     case measure=>exact Zcc
    .have hk1:(0:Int)<(k:Int):=zw
     have Pf:da (¬k=0):=hk0;clear hk0;go_wp2_with fail;refine(NL (K k) (N k) (M k) (S k) wr HO.I).mono ?_;rintro e w2 ⟨rfl,hb2⟩;have HW2:da (B_ w.heap.size w w2/\iG w2 g len K N M S):=⟨HW.I.1.trans (hb2.mono HW.I.1.size),HW.I.2.below hb2⟩
     clear hb2 c0 c1 c2 c3;go_wp2;go_roundw
     case rel=>exact⟨k+1,zw,by go_num,by rw[HX.I,if_neg Pf.I],HW2⟩
     case measure=>exact Zcc
   .go_wp2
    go_ret;have e:k=len:=zw
    subst e;exact⟨by rw[M0,if_pos HF.I.2.2.2];rfl,HW.I.1⟩
end
def Na {α:Type}(f:α->ByteArray)(l:List α):ByteArray:=l.foldl (λt x=>t++f x) ⟨#[]⟩
def OX {α:Type}{f:α->ByteArray}{l:List α}{k:Nat}{x:α}(h:l[k]? =o_ x):Na f (l.take (k+1))=Na f (l.take k)++f x:=by
 have hk:=(Lj.1 h).1;have hx:=(Lj.1 h).2;rw[QE hk,Na,List.foldl_append,hx];rfl
def NN {α:Type}{f:α->ByteArray}{m:Nat}:∀(l:List α)(t:ByteArray),(∀x∈l,(f x).size<=m)->(l.foldl (λt x=>t++f x) t).size<=t.size+m*l.length
 |[],t,_=>zy
 |x::r,t,h=>by
  have h1:=NN r (t++f x) λy hy=>h y (LB _ hy)
  have h2:=h x List.mem_cons_self;rw[List.foldl_cons,List.length_cons,Nat.mul_succ];rw[QH]at h1;omega
def Nf {α:Type}{f:α->ByteArray}{m:Nat}{l:List α}(h:∀x∈l,(f x).size<=m):(Na f l).size<=m*l.length:=by
 have h1:=NN l ⟨#[]⟩ h;have e:(⟨#[]⟩:ByteArray).size=0:=rfl;unfold Na;omega
def NS (s:ByteArray):ByteArray:=⟨#[59]⟩++s
def MI (l:List ByteArray):ByteArray:=Na NS l
def MJ (b:Bool):Int:=if b then 1 else 0
def Oq (b:Bool):Ij (MJ b)=if b then⟨#[49]⟩else⟨#[48]⟩:=by
 cases b
 .rw [Ij,F7 (by decide),Lib.decDigits,dif_pos (by decide)]
  rfl
 .rw [Ij,F7 (by decide),Lib.decDigits,dif_pos (by decide)]
  rfl
def Ny (s:ByteArray):(NS s).size=1+s.size:=by rw[NS,QH];rfl
section
def mn (id next:Int):v_:=a_ #[i_ j_ id,i_ j_ next,s_ n_ 0 0,s_ n_ 0 0,s_ n_ 0 0,s_ n_ 0 0,s_ n_ 0 0,s_ n_ 0 0]
def tJ (id:Int)(w:w_):k_ J3 86 #[i_ j_ id] w λe w'=>e=r_ (u_ #[if cv id 1 6=true then mn id 1 else mn 0 0,b_ (cv id 1 6)])/\B_ w.heap.size w w':=by
 cases h:cv id 1 6 with
 |true=>
  go_enter func86,ntmps86
  go_wp2_with(go_at_call 41;refine(dx _ _ _ _).mono ?_;rintro e w' ⟨rfl,rfl⟩;rw[h]);exact KT (v:=u_ #[mn id 1,b_ true]) ZfC rfl ⟨rfl,Zck⟩
 |false=>
  go_enter func86,ntmps86
  go_wp2_with(go_at_call 41;refine(dx _ _ _ _).mono ?_;rintro e w' ⟨rfl,rfl⟩;rw[h]);exact KT (v:=u_ #[mn 0 0,b_ false]) ZfC rfl ⟨rfl,Zck⟩
def DG (a:Option d_)(len cap:Nat)(w:w_):k_ J3 5 #[s_ a len cap] w λe w'=>e=r_ (b_ (decide (1048576<len)))/\w'=w:=by
 by_cases h:1048576<len
 .have h':(1048576:Int)<(len:Int):=zw
  go_enter func5,ntmps5
  go_wp2;go_ret;exact⟨al (by simp[h]),rfl⟩
 .have h':¬(1048576:Int)<(len:Int):=zw
  go_enter func5,ntmps5
  go_wp2;go_ret;exact⟨al zy,rfl⟩
end
end Go.Proofs.YtckenjkcmajicaaGreat
