/- What the proof leans on, part 1. -/
import Derived.Test.YtckenjkcmajicaaGreatOwnJ
import Derived.Test.YtckenjkcmajicaaGreatProg
import Derived.Handy
import Derived.Deep.OwnRows
import Derived.BigQuiet
import Derived.Deep.RegionHeld3
import Derived.Deep.DrawnRows
import Derived.Maps.RangeWalk
set_option linter.all false
set_option maxRecDepth 100000
set_option maxHeartbeats 8000000
open Go.Proofs.Tryz
open Go renaming World->w_,Value->v_,Calls->k_,Addr->d_,TypeId->T_
open Go.Ending renaming returned->r_
open Go.IntKind renaming i64->j_
open Go.Obj renaming cells->c_
open Go.RowKit renaming Below->B_,Hid->da
open Go.Value renaming int->i_,slice->s_,bool->b_,string->t_,agg->a_,tuple->u_
open Option renaming some->o_,none->n_
open Go.Proofs.Tryz renaming prog->J3,underlying2->KN
open List renaming cons_append->Qw,find?_cons->LL,length_cons->Lg

open Go.RowKit
namespace Go.Proofs.YtckenjkcmajicaaGreat
section
def _root_.Go.RowKit.Hid.I {p:Prop}(h:da p):p:=h
def PU {w:w_}{o:Obj}{i:Nat}(h:i<w.heap.size):(w.alloc o).heap[i]? =w.heap[i]?:=((Kp _ w).alloc (Ki _) o).block i h
def cv (n lo hi:Int):Bool:=decide (lo<=n)&&decide (n<=hi)
def eB {n lo hi:Int}(h1:lo<=n)(h2:n<=hi):cv n lo hi=true:=by simp[cv,h1,h2]
def mA {n lo hi:Int}(h:n<lo):cv n lo hi=false:=by simp[cv];omega
def kR {n lo hi:Int}(h:hi<n):cv n lo hi=false:=by simp[cv];omega
def al {a b:Bool}(h:a=b):Ending.returned (b_ a)=r_ (b_ b):=by rw[h]
def ck {k:IntKind}{a b:Int}(h:a=b):Ending.returned (i_ k a)=r_ (i_ k b):=by rw[h]
def lT (w:w_)(g len:Nat)(Z:Nat->Int):Prop:=g<w.heap.size/\∀j,j<len*3->w.cell? ⟨g,j,n_⟩=o_ (i_ j_ (Z j))
def lT.lt {w:w_}{g len:Nat}{Z:Nat->Int}(h:lT w g len Z):g<w.heap.size:=h.1
def lT.cell {w:w_}{g len:Nat}{Z:Nat->Int}(h:lT w g len Z){i:Nat}(hi:i<len*3):w.cell? ⟨g,i,n_⟩=o_ (i_ j_ (Z i)):=h.2 i hi
def lT.of_block {w w':w_}{g len:Nat}{Z:Nat->Int}(h:lT w g len Z)(e:w'.heap[g]? =w.heap[g]?):lT w' g len Z:=by
 exact ZaX
def lT.alloc {w:w_}{g len:Nat}{Z:Nat->Int}(h:lT w g len Z)(o:Obj):lT (w.alloc o) g len Z:=h.of_block (Below.heap_alloc w o g h.1)
def dx (n lo hi:Int)(w:w_):
  k_ J3 41 #[i_ j_ n,i_ j_ lo,i_ j_ hi] w λe w'=>e=r_ (b_ (cv n lo hi))/\w'=w:=by
 by_cases h1:lo<=n
 .by_cases h2:n<=hi
  .go_enter func41,ntmps41
   exact ZaH
  .go_enter func41,ntmps41
   exact Zax
 .go_enter func41,ntmps41
  exact Zay
def gH (c:UInt8):Bool:=decide (32<=(c.toNat:Int))&&decide ((c.toNat:Int)<=126)&& !decide ((c.toNat:Int)=59)
def bw (s:ByteArray):Bool:=decide (s.size<=20)&&s.data.toList.all gH
def Et (s:ByteArray)(k:Nat)(h:k<s.size):s.data.toList.take (k+1)=s.data.toList.take k++[s[k]]:=by
 rw[QE ZdK];rfl
def Bv {s:ByteArray}{k:Nat}(h:k<s.size)(ha:(s.data.toList.take k).all gH=true)(hb:gH s[k]=true):(s.data.toList.take (k+1)).all gH=true:=by
 rw[Et s k h,List.all_append,ha];simp[hb]
def D7 {s:ByteArray}{k:Nat}(h:k<s.size)(hb:gH s[k]=false):s.data.toList.all gH=false:=by
 rw[List.all_eq_false];exact⟨s[k],by rw[show s[k]=s.data.toList[k]'(ZdK)from rfl];exact PJ _,by simp[hb]⟩
def BA (s:ByteArray){k:Nat}(h:s.size<=k):s.data.toList.take k=s.data.toList:=KF ZdK
def xo {c:UInt8}(h:(c.toNat:Int)<32):gH c=false:=Ze2
def uO {c:UInt8}(h:126<(c.toNat:Int)):gH c=false:=Ze2
def uj {c:UInt8}(h:(c.toNat:Int)=59):gH c=false:=Ze2
def xR {c:UInt8}(h1:¬(c.toNat:Int)<32)(h2:¬126<(c.toNat:Int))(h3:¬(c.toNat:Int)=59):gH c=true:=Ze2
def jC (s:ByteArray)(w:w_)(hs:s.size<=1048576):
  k_ J3 113 #[t_ s] w λe w'=>e=r_ (b_ (bw s))/\w'=w:=by
 go_enter func113,ntmps113
 go_wp2
 go_loop [3] (λi=>∃k:Nat,k<=s.size/\i=i_ j_ k/\(s.data.toList.take k).all gH=true) (λi=>s.size-(intOf i).toNat)
 case atStart=>exact⟨0,Ky _,rfl,rfl⟩
 case round=>
  obtain⟨k,hk,rfl,hall⟩:=hrel;have HA:da ((s.data.toList.take k).all gH=true):=hall;clear hall;by_cases hlt:k<s.size
  .exact pl
  .have HA':da (s.data.toList.all gH=true):=by have:=HA.I;rwa[BA s zw]at this
   go_wp2;go_ret;exact⟨al (by rw[Bool.eq_iff_iff];simp[bw,HA'.I];omega),rfl⟩
def iM (s:ByteArray)(w:w_)(hs:s.size<=1048576):
  k_ J3 210 #[t_ s] w λe w'=>e=r_ (b_ (bw s))/\w'=w:=by
 by_cases hl:20<s.size
 .have hl':(20:Int)<(s.size:Int):=zw
  go_enter func210,ntmps210
  go_wp2;go_ret;exact⟨al (by simp[bw];intro h;omega),rfl⟩
 .have hl':¬(20:Int)<(s.size:Int):=zw
  go_enter func210,ntmps210
  go_wp2
  go_loop [9] (λi=>∃k:Nat,k<=s.size/\i=i_ j_ k/\(s.data.toList.take k).all gH=true) (λi=>s.size-(intOf i).toNat)
  case atStart=>exact⟨0,Ky _,rfl,rfl⟩
  case round=>
   obtain⟨k,hk,rfl,hall⟩:=hrel;have HA:da ((s.data.toList.take k).all gH=true):=hall;clear hall;by_cases hlt:k<s.size
   .exact pl
   .have HA':da (s.data.toList.all gH=true):=by have:=HA.I;rwa[BA s zw]at this
    have hd:decide (s.size<=20)=true:=ZbI
    go_wp2;go_ret;exact⟨al (by simp only[bw,HA'.I,hd];rfl),rfl⟩
def pJ (k:Int):Prop:=k=1\/k=2\/k=4\/k=5\/k=6\/k=11\/k=14\/k=15\/k=16
def mF (k:Int):Prop:=k=3\/k=7\/k=9\/k=12
def isText (k:Int):Prop:=k=10\/k=13
def bI (s:ByteArray):Bool:=s.toList.isEmpty
def mQ (k n m:Int)(s:ByteArray):Bool:=
 if k=1\/k=2\/k=4\/k=5\/k=6\/k=11\/k=14\/k=15\/k=16 then cv n 1 1000&&decide (m=0)&&bI s
 else if k=3\/k=7\/k=9\/k=12 then cv n 1 1000&&cv m (-1) 1000&&bI s
 else if k=8 then cv n 1 1000&&cv m (-1) 1000&&bw s
 else if k=10\/k=13 then cv n 1 1000&&decide (m=0)&&bw s
 else if k=17 then decide (n=0)&&decide (m=0)&&bI s
 else false
def Cr (k n m:Int)(s:ByteArray)(w:w_)(hk:pJ k):
  k_ J3 150 #[a_ #[i_ j_ k,i_ j_ n,i_ j_ m,t_ s]] w λe w'=>e=r_ (b_ (mQ k n m s))/\B_ w.heap.size w w':=by
 rcases hk with rfl|rfl|rfl|rfl|rfl|rfl|rfl|rfl|rfl
 all_goals
  simp only[mQ,Int.reduceEq,or_true,or_false,or_self,if_true,if_false]
  go_enter func150,ntmps150
  go_wp2_with(go_at_call 41;refine(dx _ _ _ _).mono ?_;rintro e w' ⟨rfl,rfl⟩)
  all_goals go_ret
  all_goals exact⟨al (by simp_all[bI]),Zck⟩
def BH (k n m:Int)(s:ByteArray)(w:w_)(hk:mF k):
  k_ J3 150 #[a_ #[i_ j_ k,i_ j_ n,i_ j_ m,t_ s]] w λe w'=>e=r_ (b_ (mQ k n m s))/\B_ w.heap.size w w':=by
 rcases hk with rfl|rfl|rfl|rfl
 all_goals
  simp only[mQ,Int.reduceEq,or_true,or_false,or_self,if_true,if_false]
  go_enter func150,ntmps150
  go_wp2_with(go_at_call 41;refine(dx _ _ _ _).mono ?_;rintro e w' ⟨rfl,rfl⟩)
  all_goals go_ret
  all_goals exact⟨al (by simp_all[bI]),Zck⟩
def Bu (k n m:Int)(s:ByteArray)(w:w_)(hs:s.size<=1048576)(hk:isText k):
  k_ J3 150 #[a_ #[i_ j_ k,i_ j_ n,i_ j_ m,t_ s]] w λe w'=>e=r_ (b_ (mQ k n m s))/\B_ w.heap.size w w':=by
 rcases hk with rfl|rfl
 all_goals
  simp only[mQ,Int.reduceEq,or_true,or_false,or_self,if_true,if_false]
  go_enter func150,ntmps150
  go_wp2_with(first|(go_at_call 41;refine(dx _ _ _ _).mono ?_;rintro e w' ⟨rfl,rfl⟩)|(go_at_call 113;refine(jC _ _ hs).mono ?_;rintro e w' ⟨rfl,rfl⟩))
  all_goals go_ret
  all_goals exact⟨al (by simp_all),Zck⟩
def BZ (k n m:Int)(s:ByteArray)(w:w_)(hs:s.size<=1048576)(hk:k=8\/k=17):
  k_ J3 150 #[a_ #[i_ j_ k,i_ j_ n,i_ j_ m,t_ s]] w λe w'=>e=r_ (b_ (mQ k n m s))/\B_ w.heap.size w w':=by
 rcases hk with rfl|rfl
 all_goals
  simp only[mQ,Int.reduceEq,or_self,if_true,if_false]
  go_enter func150,ntmps150
  go_wp2_with(first|(go_at_call 41;refine(dx _ _ _ _).mono ?_;rintro e w' ⟨rfl,rfl⟩)|(go_at_call 113;refine(jC _ _ hs).mono ?_;rintro e w' ⟨rfl,rfl⟩))
  all_goals go_ret
  all_goals exact⟨al (by simp_all[bI]),Zck⟩
def Bd {k n m:Int}{s:ByteArray}(h:¬(1<=k/\k<=17)):mQ k n m s=false:=by
 unfold mQ;exact Za1
def B9 (k n m:Int)(s:ByteArray)(w:w_)(hk:¬(1<=k/\k<=17)):
  k_ J3 150 #[a_ #[i_ j_ k,i_ j_ n,i_ j_ m,t_ s]] w λe w'=>e=r_ (b_ (mQ k n m s))/\B_ w.heap.size w w':=by
 rw[Bd hk];have e1:(k==1)=false:=ZbI
 have e2:(k==2)=false:=ZbI
 have e3:(k==3)=false:=ZbI
 have e4:(k==4)=false:=ZbI
 have e5:(k==5)=false:=ZbI
 have e6:(k==6)=false:=ZbI
 have e7:(k==7)=false:=ZbI
 have e8:(k==8)=false:=ZbI
 have e9:(k==9)=false:=ZbI
 have Pn:(k==10)=false:=ZbI
 have e11:(k==11)=false:=ZbI
 have PF:(k==12)=false:=ZbI
 have PG:(k==13)=false:=ZbI
 have e14:(k==14)=false:=ZbI
 have e15:(k==15)=false:=ZbI
 have e16:(k==16)=false:=ZbI
 have PH:(k==17)=false:=ZbI
 go_enter func150,ntmps150
 go_wp2_with(go_at_call 41;refine(dx _ _ _ _).mono ?_;rintro e w' ⟨rfl,rfl⟩);go_ret;exact⟨rfl,Zck⟩
def xZ (k n m:Int)(s:ByteArray)(w:w_)(hs:s.size<=1048576):
  k_ J3 150 #[a_ #[i_ j_ k,i_ j_ n,i_ j_ m,t_ s]] w λe w'=>e=r_ (b_ (mQ k n m s))/\B_ w.heap.size w w':=by
 by_cases h0:1<=k/\k<=17
 .by_cases h1:pJ k
  .exact Cr k n m s w h1
  by_cases h2:mF k
  .exact BH k n m s w h2
  by_cases h3:isText k
  .exact Bu k n m s w hs h3
  exact BZ k n m s w hs Zep
 .exact B9 k n m s w h0
abbrev dN:=Int×Int×Int×ByteArray
def kc (o:dN):Bool:=mQ o.1 o.2.1 o.2.2.1 o.2.2.2
def Row (w:w_)(a:Option d_)(xs:List v_):Prop:=∀(j:Nat)(u:v_),xs[j]? =o_ u->∃g,a=o_ ⟨g,0,n_⟩/\w.cell? ⟨g,j,n_⟩=o_ u
section
variable {w w':w_}{a:Option d_}{xs:List v_}
def Row.nothing (w:w_)(a:Option d_):Row w a []:=λj u h=>Zd2
def Row.same (h:Row w a xs)(hs:∀g,a=o_ ⟨g,0,n_⟩->w'.heap[g]? =w.heap[g]?):Row w' a xs:=λj u hu=>by
 obtain⟨g,e,hc⟩:=h j u hu;exact⟨g,e,(J1 (w:=w) (a:=⟨g,j,n_⟩) (hs g e)).trans hc⟩
def Row.below (h:Row w a xs)(hb:B_ w.heap.size w w'):Row w' a xs:=λj u hu=>by
 obtain⟨g,e,hc⟩:=h j u hu;exact⟨g,e,(hb.cell (p:=⟨g,j,n_⟩) (Le hc)).trans hc⟩
def Row.low {bj:Nat}(h:Row w a xs)(ha:∀q,a=o_ q->q.block<bj)(hb:B_ bj w w'):Row w' a xs:=h.same λg e=>hb.block g (ha _ e)
def Row.drew (h:Row w a xs):Row w.drew a xs:=h
end
def Src (w:w_)(a:Option d_)(xs:List v_):Prop:=∀(j:Nat)(u:v_),xs[j]? =o_ u->∃b off,a=o_ ⟨b,off,n_⟩/\w.cell? ⟨b,off+j,n_⟩=o_ u
def Src.below {w w':w_}{a:Option d_}{xs:List v_}(h:Src w a xs)(hb:B_ w.heap.size w w'):Src w' a xs:=λj u hu=>by
 obtain⟨b,off,e,hc⟩:=h j u hu;exact⟨b,off,e,(hb.cell (p:=⟨b,off+j,n_⟩) (Le hc)).trans hc⟩
structure Kind (α:Type) where
 n:Nat
 vals:α->List v_
 kids:α->List (Option d_×List v_)
 pos:0<n
 len:∀x,(vals x).length=n
section
variable {α:Type}(K:Kind α)
def Kind.flat (l:List α):List v_:=l.flatMap K.vals
def Kind.dM (l:List α):(K.flat l).length=l.length*K.n:=by
 induction l with
 |nil=>exact Zfz
 |cons x r ih=>
  show(K.vals x++K.flat r).length=_
  rw[Lf,ih,K.len,Lg,Lh];omega
def Kind.jw {l:List α}{i:Nat}{x:α}(hx:l[i]? =o_ x){j:Nat}(hj:j<K.n):(K.flat l)[i*K.n+j]? =(K.vals x)[j]?:=by
 induction l generalizing i with
 |nil=>simp at hx
 |cons y r ih=>
  show(K.vals y++K.flat r)[_]? =_
  cases i with
  |zero=>
   simp at hx;subst hx;rw[Nat.zero_mul,Li,Qp Ze8]
  |succ i=>
   have hx':r[i]? =o_ x:=ZdT
   rw[Qo (by rw[K.len,Lh];omega),K.len,show(i+1)*K.n+j-K.n=i*K.n+j by rw[Lh];omega];exact ih hx'
def Kind.dc (l r:List α):K.flat (l++r)=K.flat l++K.flat r:=List.flatMap_append
def Kind.GJ (x:α):K.flat [x]=K.vals x:=Zfz
def Kind.bU (w:w_)(a:Option d_)(l:List α):Prop:=Row w a (K.flat l)/\∀x∈l,∀r∈K.kids x,Row w r.1 r.2
variable {K}
def Kind.bU.at {w:w_}{a:Option d_}{l:List α}(h:K.bU w a l){i:Nat}{x:α}(hx:l[i]? =o_ x):
  ∃g,a=o_ ⟨g,0,n_⟩/\∀(j:Nat)(u:v_),(K.vals x)[j]? =o_ u->w.cell? ⟨g,i*K.n+j,n_⟩=o_ u:=by
 have h0:∃u,(K.vals x)[0]? =o_ u:=⟨_,Kz (by rw[K.len];exact K.pos)⟩
 obtain⟨u0,hu0⟩:=h0;obtain⟨g,e,_⟩:=h.1 (i*K.n+0) u0 ((K.jw hx K.pos).trans hu0);refine⟨g,e,λj u hu=>?_⟩;have hj:j<K.n:=by
  rw[<-K.len x];exact(Lj.1 hu).1
 obtain⟨g',e',hc⟩:=h.1 (i*K.n+j) u ((K.jw hx hj).trans hu);rw[e]at e';cases e';exact hc
def Kind.bU.bt {w:w_}{a:Option d_}{l:List α}(h:K.bU w a l){i:Nat}{x:α}(hx:l[i]? =o_ x){r:Option d_×List v_}(hr:r∈K.kids x):Row w r.1 r.2:=h.2 x (KA hx) r hr
variable (K)in
def Kind.ep (w:w_)(a:Option d_)(l:List α):Prop:=Src w a (K.flat l)/\∀x∈l,∀r∈K.kids x,Src w r.1 r.2
def Kind.ep.at {w:w_}{a:Option d_}{l:List α}(h:K.ep w a l){i:Nat}{x:α}(hx:l[i]? =o_ x):
  ∃b off,a=o_ ⟨b,off,n_⟩/\∀(j:Nat)(u:v_),(K.vals x)[j]? =o_ u->w.cell? ⟨b,off+i*K.n+j,n_⟩=o_ u:=by
 have h0:∃u,(K.vals x)[0]? =o_ u:=⟨_,Kz (by rw[K.len];exact K.pos)⟩
 obtain⟨u0,hu0⟩:=h0;obtain⟨b,off,e,_⟩:=h.1 (i*K.n+0) u0 ((K.jw hx K.pos).trans hu0);refine⟨b,off,e,λj u hu=>?_⟩;have hj:j<K.n:=by
  rw[<-K.len x];exact(Lj.1 hu).1
 obtain⟨b',off',e',hc⟩:=h.1 (i*K.n+j) u ((K.jw hx hj).trans hu);rw[e]at e';cases e';rw[Nat.add_assoc];exact hc
def Kind.ep.bt {w:w_}{a:Option d_}{l:List α}(h:K.ep w a l){i:Nat}{x:α}(hx:l[i]? =o_ x){r:Option d_×List v_}(hr:r∈K.kids x):Src w r.1 r.2:=h.2 x (KA hx) r hr
def Kind.ep.below {w w':w_}{a:Option d_}{l:List α}(h:K.ep w a l)(hb:B_ w.heap.size w w'):K.ep w' a l:=⟨h.1.below hb,λx hx r hr=>(h.2 x hx r hr).below hb⟩
def Kind.bU.below {w w':w_}{a:Option d_}{l:List α}(h:K.bU w a l)(hb:B_ w.heap.size w w'):K.bU w' a l:=⟨h.1.below hb,λx hx r hr=>(h.2 x hx r hr).below hb⟩
end
def CC (o:dN):List v_:=[i_ j_ o.1,i_ j_ o.2.1,i_ j_ o.2.2.1,t_ o.2.2.2]
def fk:Kind dN:=⟨4,CC,λ_=>[],by decide,λ_=>rfl⟩
def bT:Kind ByteArray:=⟨1,λs=>[t_ s],λ_=>[],by decide,λ_=>rfl⟩
def xe (K N M:Nat->Int)(S:Nat->ByteArray)(j:Nat):v_:=if j%4=0 then i_ j_ (K (j/4))else if j%4=1 then i_ j_ (N (j/4))else if j%4=2 then i_ j_ (M (j/4))else t_ (S (j/4))
def opV_0 (K N M:Nat->Int)(S:Nat->ByteArray)(i:Nat):xe K N M S (i*4)=i_ j_ (K i):=by
 have e:i*4%4=0:=zw
 have d:i*4/4=i:=zw
 simp[xe,d]
def opV_1 (K N M:Nat->Int)(S:Nat->ByteArray)(i:Nat):xe K N M S (i*4+1)=i_ j_ (N i):=by
 have e:(i*4+1)%4=1:=zw
 have d:(i*4+1)/4=i:=zw
 simp[xe,e,d]
def opV_2 (K N M:Nat->Int)(S:Nat->ByteArray)(i:Nat):xe K N M S (i*4+2)=i_ j_ (M i):=by
 have e:(i*4+2)%4=2:=zw
 have d:(i*4+2)/4=i:=zw
 simp[xe,e,d]
def opV_3 (K N M:Nat->Int)(S:Nat->ByteArray)(i:Nat):xe K N M S (i*4+3)=t_ (S i):=by
 have e:(i*4+3)%4=3:=zw
 have d:(i*4+3)/4=i:=zw
 simp[xe,e,d]
def iG (w:w_)(g len:Nat)(K N M:Nat->Int)(S:Nat->ByteArray):Prop:=g<w.heap.size/\∀j,j<len*4->w.cell? ⟨g,j,n_⟩=o_ (xe K N M S j)
def iG.of_block {w w':w_}{g len:Nat}{K N M:Nat->Int}{S:Nat->ByteArray}(h:iG w g len K N M S)(e:w'.heap[g]? =w.heap[g]?):iG w' g len K N M S:=by
 exact ZaX
def iG.below {w w':w_}{g len:Nat}{K N M:Nat->Int}{S:Nat->ByteArray}(h:iG w g len K N M S)(hb:B_ w.heap.size w w'):iG w' g len K N M S:=h.of_block (hb.block g h.1)
def iG.c0 {w:w_}{g len:Nat}{K N M:Nat->Int}{S:Nat->ByteArray}(h:iG w g len K N M S){i:Nat}(hi:i<len):w.cell? ⟨g,i*4,n_⟩=o_ (i_ j_ (K i)):=by rw[<-opV_0 K N M S];exact h.2 _ zw
def iG.c1 {w:w_}{g len:Nat}{K N M:Nat->Int}{S:Nat->ByteArray}(h:iG w g len K N M S){i:Nat}(hi:i<len):w.cell? ⟨g,i*4+1,n_⟩=o_ (i_ j_ (N i)):=by rw[<-opV_1 K N M S];exact h.2 _ zw
def iG.c2 {w:w_}{g len:Nat}{K N M:Nat->Int}{S:Nat->ByteArray}(h:iG w g len K N M S){i:Nat}(hi:i<len):w.cell? ⟨g,i*4+2,n_⟩=o_ (i_ j_ (M i)):=by rw[<-opV_2 K N M S];exact h.2 _ zw
def iG.c3 {w:w_}{g len:Nat}{K N M:Nat->Int}{S:Nat->ByteArray}(h:iG w g len K N M S){i:Nat}(hi:i<len):w.cell? ⟨g,i*4+3,n_⟩=o_ (t_ (S i)):=by rw[<-opV_3 K N M S];exact h.2 _ zw
def j8 (K N M:Nat->Int)(S:Nat->ByteArray)(i:Nat):Bool:=mQ (K i) (N i) (M i) (S i)
def nq (len:Nat)(K N M:Nat->Int)(S:Nat->ByteArray):Bool:=decide (1<=len/\len<=20/\∀i,i<len->j8 K N M S i=true)
def vM {len:Nat}{K N M:Nat->Int}{S:Nat->ByteArray}(h:1<=len/\len<=20/\∀i,i<len->j8 K N M S i=true):nq len K N M S=true:=by simp only[nq];exact decide_eq_true h
def iS {len:Nat}{K N M:Nat->Int}{S:Nat->ByteArray}(h:¬(1<=len/\len<=20/\∀i,i<len->j8 K N M S i=true)):nq len K N M S=false:=by simp only[nq];exact decide_eq_false h
def Cd (os:List dN)(i:Nat):Int:=(os[i]?.getD (0,0,0,⟨#[]⟩)).1
def Cg (os:List dN)(i:Nat):Int:=(os[i]?.getD (0,0,0,⟨#[]⟩)).2.1
def Ea (os:List dN)(i:Nat):Int:=(os[i]?.getD (0,0,0,⟨#[]⟩)).2.2.1
def Ce (os:List dN)(i:Nat):ByteArray:=(os[i]?.getD (0,0,0,⟨#[]⟩)).2.2.2
def y9 (w:w_)(g:Nat)(os:List dN):Prop:=iG w g os.length (Cd os) (Cg os) (Ea os) (Ce os)
def xu (w:w_)(a:Option d_)(os:List dN):Prop:=0<os.length->∃g,a=o_ ⟨g,0,n_⟩/\y9 w g os
def xu.below {w w':w_}{a:Option d_}{os:List dN}(h:xu w a os)(hb:B_ w.heap.size w w'):xu w' a os:=λhl=>by
 obtain⟨g,rfl,hw⟩:=h hl;exact⟨g,rfl,iG.below hw hb⟩
def xu.low {w w':w_}{a:Option d_}{bj:Nat}{os:List dN}(h:xu w a os)(ha:∀q,a=o_ q->q.block<bj)(hb:B_ bj w w'):xu w' a os:=λhl=>by
 obtain⟨g,rfl,hw⟩:=h hl;exact⟨g,rfl,iG.of_block hw (hb.block g (ha _ rfl))⟩
structure bD where
 id:Int
 n:Int
 max:Int
def yz (x:bD):List v_:=[i_ j_ x.id,i_ j_ x.n,i_ j_ x.max]
def dm:Kind bD:=⟨3,yz,λ_=>[],by decide,λ_=>rfl⟩
def bD.At (w:w_)(g i:Nat)(x:bD):Prop:=w.cell? ⟨g,i*3,n_⟩=o_ (i_ j_ x.id)/\w.cell? ⟨g,i*3+1,n_⟩=o_ (i_ j_ x.n)/\w.cell? ⟨g,i*3+2,n_⟩=o_ (i_ j_ x.max)
def lQ {w:w_}{a:Option d_}{l:List bD}(h:dm.bU w a l){i:Nat}{x:bD}(hx:l[i]? =o_ x):∃g,a=o_ ⟨g,0,n_⟩/\bD.At w g i x:=by
 exact Zav
structure aB where
 id:Int
 up:Bool
def rY (x:aB):List v_:=[i_ j_ x.id,b_ x.up]
def bJ:Kind aB:=⟨2,rY,λ_=>[],by decide,λ_=>rfl⟩
def aB.At (w:w_)(g i:Nat)(x:aB):Prop:=w.cell? ⟨g,i*2,n_⟩=o_ (i_ j_ x.id)/\w.cell? ⟨g,i*2+1,n_⟩=o_ (b_ x.up)
def j4 {w:w_}{a:Option d_}{l:List aB}(h:bJ.bU w a l){i:Nat}{x:aB}(hx:l[i]? =o_ x):∃g,a=o_ ⟨g,0,n_⟩/\aB.At w g i x:=by
 obtain⟨g,e,hc⟩:=h.at hx;exact⟨g,e,hc 0 _ rfl,hc 1 _ rfl⟩
structure az where
 id:Int
 shown:Bool
 text:ByteArray
def sn (x:az):List v_:=[i_ j_ x.id,b_ x.shown,t_ x.text]
def bG:Kind az:=⟨3,sn,λ_=>[],by decide,λ_=>rfl⟩
def az.At (w:w_)(g i:Nat)(x:az):Prop:=w.cell? ⟨g,i*3,n_⟩=o_ (i_ j_ x.id)/\w.cell? ⟨g,i*3+1,n_⟩=o_ (b_ x.shown)/\w.cell? ⟨g,i*3+2,n_⟩=o_ (t_ x.text)
def jr {w:w_}{a:Option d_}{l:List az}(h:bG.bU w a l){i:Nat}{x:az}(hx:l[i]? =o_ x):∃g,a=o_ ⟨g,0,n_⟩/\az.At w g i x:=by
 exact Zav
structure ci where
 id:Int
 max:Int
 Ma:List ByteArray
structure au extends ci where
 ak:Option d_
 aq:Nat
def nD (x:au):List v_:=[i_ j_ x.id,i_ j_ x.max,s_ x.ak x.Ma.length x.aq]
def bm:Kind au:=⟨3,nD,λx=>[(x.ak,bT.flat x.Ma)],by decide,λ_=>rfl⟩
def au.At (w:w_)(g i:Nat)(x:au):Prop:=w.cell? ⟨g,i*3,n_⟩=o_ (i_ j_ x.id)/\w.cell? ⟨g,i*3+1,n_⟩=o_ (i_ j_ x.max)/\w.cell? ⟨g,i*3+2,n_⟩=o_ (s_ x.ak x.Ma.length x.aq)
def iA {w:w_}{a:Option d_}{l:List au}(h:bm.bU w a l){i:Nat}{x:au}(hx:l[i]? =o_ x):∃g,a=o_ ⟨g,0,n_⟩/\au.At w g i x:=by
 exact Zav
def lj {w:w_}{a:Option d_}{l:List au}(h:bm.bU w a l){i:Nat}{x:au}(hx:l[i]? =o_ x):Row w x.ak (bT.flat x.Ma):=h.bt hx (r:=(x.ak,bT.flat x.Ma)) (by simp[bm])
structure dS where
 id:Int
 I:Bool
 Mf:Bool
 max:Int
 Ma:List ByteArray
structure aM extends dS where
 ak:Option d_
 aq:Nat
def qT (x:aM):List v_:=[i_ j_ x.id,b_ x.I,b_ x.Mf,i_ j_ x.max,s_ x.ak x.Ma.length x.aq]
def bX:Kind aM:=⟨5,qT,λx=>[(x.ak,bT.flat x.Ma)],by decide,λ_=>rfl⟩
def aM.At (w:w_)(g i:Nat)(x:aM):Prop:=w.cell? ⟨g,i*5,n_⟩=o_ (i_ j_ x.id)/\w.cell? ⟨g,i*5+1,n_⟩=o_ (b_ x.I)/\w.cell? ⟨g,i*5+2,n_⟩=o_ (b_ x.Mf)/\w.cell? ⟨g,i*5+3,n_⟩=o_ (i_ j_ x.max)/\w.cell? ⟨g,i*5+4,n_⟩=o_ (s_ x.ak x.Ma.length x.aq)
def lm {w:w_}{a:Option d_}{l:List aM}(h:bX.bU w a l){i:Nat}{x:aM}(hx:l[i]? =o_ x):∃g,a=o_ ⟨g,0,n_⟩/\aM.At w g i x:=by
 obtain⟨g,e,hc⟩:=h.at hx;exact⟨g,e,hc 0 _ rfl,hc 1 _ rfl,hc 2 _ rfl,hc 3 _ rfl,hc 4 _ rfl⟩
def nJ {w:w_}{a:Option d_}{l:List aM}(h:bX.bU w a l){i:Nat}{x:aM}(hx:l[i]? =o_ x):Row w x.ak (bT.flat x.Ma):=h.bt hx (r:=(x.ak,bT.flat x.Ma)) (by simp[bX])
structure aD where
 id:Int
 RX:Int
 prog:List dN
 Md:Int
 pc:Int
 left:Int
 Mg:Int
 on:Int
 held:ByteArray
 got:ByteArray
 code:Int
 RU:Int
structure ao extends aD where
 aY:Option d_
 bH:Nat
def qN (x:ao):List v_:=[i_ j_ x.id,i_ j_ x.RX,s_ x.aY x.prog.length x.bH,i_ j_ x.Md,i_ j_ x.pc,i_ j_ x.left,i_ j_ x.Mg,i_ j_ x.on,t_ x.held,t_ x.got,i_ j_ x.code,i_ j_ x.RU]
def bg:Kind ao:=⟨12,qN,λx=>[(x.aY,fk.flat x.prog)],by decide,λ_=>rfl⟩
def ao.At (w:w_)(g i:Nat)(x:ao):Prop:=w.cell? ⟨g,i*12,n_⟩=o_ (i_ j_ x.id)/\w.cell? ⟨g,i*12+1,n_⟩=o_ (i_ j_ x.RX)/\w.cell? ⟨g,i*12+2,n_⟩=o_ (s_ x.aY x.prog.length x.bH)/\w.cell? ⟨g,i*12+3,n_⟩=o_ (i_ j_ x.Md)/\w.cell? ⟨g,i*12+4,n_⟩=o_ (i_ j_ x.pc)/\w.cell? ⟨g,i*12+5,n_⟩=o_ (i_ j_ x.left)/\w.cell? ⟨g,i*12+6,n_⟩=o_ (i_ j_ x.Mg)/\w.cell? ⟨g,i*12+7,n_⟩=o_ (i_ j_ x.on)/\w.cell? ⟨g,i*12+8,n_⟩=o_ (t_ x.held)/\w.cell? ⟨g,i*12+9,n_⟩=o_ (t_ x.got)/\w.cell? ⟨g,i*12+10,n_⟩=o_ (i_ j_ x.code)/\w.cell? ⟨g,i*12+11,n_⟩=o_ (i_ j_ x.RU)
def cn {w:w_}{a:Option d_}{l:List ao}(h:bg.bU w a l){i:Nat}{x:ao}(hx:l[i]? =o_ x):∃g,a=o_ ⟨g,0,n_⟩/\ao.At w g i x:=by
 obtain⟨g,e,hc⟩:=h.at hx;exact⟨g,e,hc 0 _ rfl,hc 1 _ rfl,hc 2 _ rfl,hc 3 _ rfl,hc 4 _ rfl,hc 5 _ rfl,hc 6 _ rfl,hc 7 _ rfl,hc 8 _ rfl,hc 9 _ rfl,hc 10 _ rfl,hc 11 _ rfl⟩
def lA {w:w_}{a:Option d_}{l:List ao}(h:bg.bU w a l){i:Nat}{x:ao}(hx:l[i]? =o_ x):Row w x.aY (fk.flat x.prog):=h.bt hx (r:=(x.aY,fk.flat x.prog)) (by simp[bg])
structure af where
 id:Int
 next:Int
 L8:List ao
 aN:Option d_
 aW:Nat
 aj:List bD
 bc:Option d_
 bF:Nat
 L9:List aB
 ay:Option d_
 aO:Nat
 ag:List az
 ax:Option d_
 aP:Nat
 ae:List au
 am:Option d_
 aG:Nat
 ai:List aM
 aK:Option d_
 aV:Nat
def af.cells (p:af):Array v_:=#[i_ j_ p.id,i_ j_ p.next,s_ p.aN p.L8.length p.aW,s_ p.bc p.aj.length p.bF,s_ p.ay p.L9.length p.aO,s_ p.ax p.ag.length p.aP,s_ p.am p.ae.length p.aG,s_ p.aK p.ai.length p.aV]
def af.At (w:w_)(p:af):Prop:=bg.bU w p.aN p.L8/\dm.bU w p.bc p.aj/\bJ.bU w p.ay p.L9/\bG.bU w p.ax p.ag/\bm.bU w p.am p.ae/\bX.bU w p.aK p.ai
def af.At.below {w w':w_}{p:af}(h:af.At w p)(hb:B_ w.heap.size w w'):af.At w' p:=⟨h.1.below hb,h.2.1.below hb,h.2.2.1.below hb,h.2.2.2.1.below hb,h.2.2.2.2.1.below hb,h.2.2.2.2.2.below hb⟩
structure aE where
 id:Int
 next:Int
 L8:List aD
 aj:List bD
 L9:List aB
 ag:List az
 ae:List ci
 ai:List dS
def af.pure (p:af):aE:=⟨p.id,p.next,p.L8.map (·.toaD),p.aj,p.L9,p.ag,p.ae.map (·.toci),p.ai.map (·.todS)⟩
def place (l:List Int)(id:Int)(i:Nat):Int:=match l with
 |[]=> -1
 |x::r=>if x=id then i else place r id (i+1)
def z8:∀(l:List Int)(id:Int)(i:Nat),place l id i= -1\/(i:Int)<=place l id i
 |[],_,_=>.inl rfl
 |y::r,id,i=>by
  simp only[place]
  split
  .exact .inr zw
  .rcases z8 r id (i+1)with h|h
   .exact .inl h
   .exact .inr zw
def nN:∀{l:List Int}{id:Int}{i:Nat},place l id i= -1↔id∉l
 |[],id,i=>by simp[place]
 |y::r,id,i=>by
  simp only[place,Kt,not_or]
  split
  .rename_i h
   constructor
   .intro h2;omega
   .intro h2;exact absurd h.symm h2.1
  .rename_i h
   rw[nN (l:=r)];exact⟨λh2=>⟨λe=>h e.symm,h2⟩,λh2=>h2.2⟩
def ku {l:List Int}{id:Int}{k:Nat}(h:id∉l.take k){x:Int}(hx:l[k]? =o_ x)(e:x=id):place l id 0=k:=by
 have hk:k<l.length:=(Lj.1 hx).1;have e1:l=l.take k++x::l.drop (k+1):=by
  have:=Qn k l
  rw[adH hk]at this;rw[<-this];rw[Kz hk]at hx;cases hx;simp
 have key:∀(t:List Int)(i:Nat),id∉t->place (t++x::l.drop (k+1)) id i=((i+t.length:Nat):Int):=by
  intro t
  induction t with
  |nil=>intro i _;simp[place,e]
  |cons y r ih=>
   intro i hn;simp only[Kt,not_or]at hn;simp only[Qw,place];rw[if_neg (λh=>hn.1 h.symm),ih (i+1) hn.2];simp only[Lg];rw[show i+1+r.length=i+(r.length+1) by omega]
 have:=key (l.take k) 0 h
 rw[<-e1]at this;rw[this,Lk]
 congr 1
 omega
abbrev af.row (p:af):Array v_:=#[i_ j_ p.id,i_ j_ p.next,s_ p.aN p.L8.length p.aW,s_ p.bc p.aj.length p.bF,s_ p.ay p.L9.length p.aO,s_ p.ax p.ag.length p.aP,s_ p.am p.ae.length p.aG,s_ p.aK p.ai.length p.aV]
abbrev af.L6 (p:af)(g:Nat):Array v_:=#[i_ j_ p.id,i_ j_ p.next,s_ (o_ ⟨g,0,n_⟩) p.L8.length p.aW,s_ p.bc p.aj.length p.bF,s_ p.ay p.L9.length p.aO,s_ p.ax p.ag.length p.aP,s_ p.am p.ae.length p.aG,s_ p.aK p.ai.length p.aV]
abbrev ao.row (x:ao):Array v_:=#[i_ j_ x.id,i_ j_ x.RX,s_ x.aY x.prog.length x.bH,i_ j_ x.Md,i_ j_ x.pc,i_ j_ x.left,i_ j_ x.Mg,i_ j_ x.on,t_ x.held,t_ x.got,i_ j_ x.code,i_ j_ x.RU]
abbrev ar:Array v_:=#[i_ j_ 0,i_ j_ 0,s_ n_ 0 0,s_ n_ 0 0,s_ n_ 0 0,s_ n_ 0 0,s_ n_ 0 0,s_ n_ 0 0]
abbrev cE:Array v_:=#[i_ j_ 0,i_ j_ 0,s_ n_ 0 0,i_ j_ 0,i_ j_ 0,i_ j_ 0,i_ j_ 0,i_ j_ 0,t_ ⟨#[]⟩,t_ ⟨#[]⟩,i_ j_ 0,i_ j_ 0]
def eW (n:Int)(w:w_):k_ J3 174 #[i_ j_ n] w λe w'=>e=r_ (b_ (cv n 1 1000))/\w'=w:=by
 by_cases h1:1<=n
 .by_cases h2:n<=1000
  .go_enter func174,ntmps174
   exact ZaH
  .go_enter func174,ntmps174
   exact Zax
 .go_enter func174,ntmps174
  exact Zay
def iX (n:Int)(w:w_):k_ J3 228 #[i_ j_ n] w λe w'=>e=r_ (b_ (cv n (-1) 1000))/\w'=w:=by
 by_cases h1: -1<=n
 .by_cases h2:n<=1000
  .go_enter func228,ntmps228
   exact ZaH
  .go_enter func228,ntmps228
   exact Zax
 .go_enter func228,ntmps228
  exact Zay
/-! ### Which form an interface value bears. -/
def ze (v:v_)(w:w_):(Instr.typeAssert (.iface 303 v) 290 303 true).run J3 w=.ok (u_ #[v,b_ true]) w:=ZbG
def uC (v:v_)(w:w_):(Instr.typeAssert (.iface 295 v) 290 303 true).run J3 w=.ok (u_ #[a_ #[i_ j_ 0],b_ false]) w:=ZbG
def sG (v:v_)(w:w_):(Instr.typeAssert (.iface 295 v) 290 295 true).run J3 w=.ok (u_ #[v,b_ true]) w:=ZbG
def zv (v:v_)(w:w_):(Instr.typeAssert (.iface 297 v) 290 303 true).run J3 w=.ok (u_ #[a_ #[i_ j_ 0],b_ false]) w:=ZbG
def uY (v:v_)(w:w_):(Instr.typeAssert (.iface 297 v) 290 295 true).run J3 w=.ok (u_ #[a_ #[i_ j_ 0,i_ j_ 0],b_ false]) w:=ZbG
def y8 (v:v_)(w:w_):(Instr.typeAssert (.iface 297 v) 290 297 true).run J3 w=.ok (u_ #[v,b_ true]) w:=ZbG
def zt (v:v_)(w:w_):(Instr.typeAssert (.iface 299 v) 290 303 true).run J3 w=.ok (u_ #[a_ #[i_ j_ 0],b_ false]) w:=ZbG
def vh (v:v_)(w:w_):(Instr.typeAssert (.iface 299 v) 290 295 true).run J3 w=.ok (u_ #[a_ #[i_ j_ 0,i_ j_ 0],b_ false]) w:=ZbG
def yQ (v:v_)(w:w_):(Instr.typeAssert (.iface 299 v) 290 297 true).run J3 w=.ok (u_ #[a_ #[i_ j_ 0,i_ j_ 0,i_ j_ 0],b_ false]) w:=ZbG
def yj (v:v_)(w:w_):(Instr.typeAssert (.iface 299 v) 290 299 true).run J3 w=.ok (u_ #[v,b_ true]) w:=ZbG
def zq (v:v_)(w:w_):(Instr.typeAssert (.iface 301 v) 290 303 true).run J3 w=.ok (u_ #[a_ #[i_ j_ 0],b_ false]) w:=ZbG
def vy (v:v_)(w:w_):(Instr.typeAssert (.iface 301 v) 290 295 true).run J3 w=.ok (u_ #[a_ #[i_ j_ 0,i_ j_ 0],b_ false]) w:=ZbG
def yt (v:v_)(w:w_):(Instr.typeAssert (.iface 301 v) 290 297 true).run J3 w=.ok (u_ #[a_ #[i_ j_ 0,i_ j_ 0,i_ j_ 0],b_ false]) w:=ZbG
def yM (v:v_)(w:w_):(Instr.typeAssert (.iface 301 v) 290 299 true).run J3 w=.ok (u_ #[a_ #[i_ j_ 0,i_ j_ 0,i_ j_ 0,t_ ByteArray.empty],b_ false]) w:=ZbG
def yU (v:v_)(w:w_):(Instr.typeAssert (.iface 301 v) 290 301 true).run J3 w=.ok (u_ #[v,b_ true]) w:=ZbG
def my (k:Int)(w:w_):
  k_ J3 227 #[.iface 303 (a_ #[i_ j_ k])] w λe w'=>e=r_ (b_ (true))/\B_ w.heap.size w w':=by
 have yW:=ze (a_ #[i_ j_ k])
 exact vc
def mC (k n:Int)(w:w_):
  k_ J3 227 #[.iface 295 (a_ #[i_ j_ k,i_ j_ n])] w λe w'=>e=r_ (b_ (cv n 1 1000))/\B_ w.heap.size w w':=by
 have yW:=uC (a_ #[i_ j_ k,i_ j_ n]);have ur:=sG (a_ #[i_ j_ k,i_ j_ n])
 exact vc
def sH (k n m:Int)(w:w_):
  k_ J3 227 #[.iface 297 (a_ #[i_ j_ k,i_ j_ n,i_ j_ m])] w λe w'=>e=r_ (b_ (cv n 1 1000&&cv m (-1) 1000))/\B_ w.heap.size w w':=by
 have yW:=zv (a_ #[i_ j_ k,i_ j_ n,i_ j_ m]);have ur:=uY (a_ #[i_ j_ k,i_ j_ n,i_ j_ m]);have GI:=y8 (a_ #[i_ j_ k,i_ j_ n,i_ j_ m])
 exact vc
def Bc (k n m:Int)(s:ByteArray)(w:w_)(hs:s.size<=1048576):
  k_ J3 227 #[.iface 299 (a_ #[i_ j_ k,i_ j_ n,i_ j_ m,t_ s])] w λe w'=>e=r_ (b_ (cv n 1 1000&&cv m (-1) 1000&&bw s))/\B_ w.heap.size w w':=by
 have yW:=zt (a_ #[i_ j_ k,i_ j_ n,i_ j_ m,t_ s]);have ur:=vh (a_ #[i_ j_ k,i_ j_ n,i_ j_ m,t_ s]);have GI:=yQ (a_ #[i_ j_ k,i_ j_ n,i_ j_ m,t_ s]);have h_send:=yj (a_ #[i_ j_ k,i_ j_ n,i_ j_ m,t_ s])
 exact H_
def sL (k n:Int)(s:ByteArray)(w:w_)(hs:s.size<=1048576):
  k_ J3 227 #[.iface 301 (a_ #[i_ j_ k,i_ j_ n,t_ s])] w λe w'=>e=r_ (b_ (cv n 1 1000&&bw s))/\B_ w.heap.size w w':=by
 have yW:=zq (a_ #[i_ j_ k,i_ j_ n,t_ s]);have ur:=vy (a_ #[i_ j_ k,i_ j_ n,t_ s]);have GI:=yt (a_ #[i_ j_ k,i_ j_ n,t_ s]);have h_send:=yM (a_ #[i_ j_ k,i_ j_ n,t_ s]);have h_text:=yU (a_ #[i_ j_ k,i_ j_ n,t_ s])
 exact H_
def nh {l:List Int}{k:Nat}{id x:Int}(h:id∉l.take k)(hx:l[k]? =o_ x)(hne:¬x=id):id∉l.take (k+1):=by
 have hk:k<l.length:=(Lj.1 hx).1;rw[QE hk,Kg,KB];rw[Kz hk]at hx;cases hx;rintro(h1|h1)
 .exact h h1
 .exact hne h1.symm
def jg {l:List Int}{k:Nat}{id:Int}(h:id∉l.take k)(hk:l.length<=k):place l id 0= -1:=by
 rw[KF hk]at h;exact nN.2 h
def lS (p:af)(id:Int)(w:w_)(hl:p.L8.length<=1048576)(h:af.At w p):
  k_ J3 137 #[a_ p.cells,i_ j_ id] w λe w'=>e=r_ (i_ j_ (place (p.L8.map (·.id)) id 0))/\B_ w.heap.size w w':=by
 have H:da (bg.bU (w.alloc (c_ p.cells 46)) p.aN p.L8/\B_ w.heap.size w (w.alloc (c_ p.cells 46))):=⟨h.1.below ((Kp _ _).alloc (Ki _) _),(Kp _ _).alloc (Ki _) _⟩
 have q:(w.alloc (c_ p.cells 46)).cell? ⟨w.heap.size,2,n_⟩=o_ (s_ p.aN p.L8.length p.aW):=ZcH
 clear h;generalize p.L8=l at*;unfold af.cells at*
 go_enter func137,ntmps137
 go_wp2_with fail;generalize w.alloc (c_ p.row 46)=W at*;have K:=@cn
 exact fd
def lw (p:af)(id:Int)(w:w_)(hl:p.aj.length<=1048576)(h:af.At w p):
  k_ J3 151 #[a_ p.cells,i_ j_ id] w λe w'=>e=r_ (i_ j_ (place (p.aj.map (·.id)) id 0))/\B_ w.heap.size w w':=by
 have H:da (dm.bU (w.alloc (c_ p.cells 46)) p.bc p.aj/\B_ w.heap.size w (w.alloc (c_ p.cells 46))):=⟨h.2.1.below ((Kp _ _).alloc (Ki _) _),(Kp _ _).alloc (Ki _) _⟩
 have q:(w.alloc (c_ p.cells 46)).cell? ⟨w.heap.size,3,n_⟩=o_ (s_ p.bc p.aj.length p.bF):=ZcH
 clear h;generalize p.aj=l at*;unfold af.cells at*
 go_enter func151,ntmps151
 go_wp2_with fail;generalize w.alloc (c_ p.row 46)=W at*;have K:=@lQ
 exact fd
def ml (p:af)(id:Int)(w:w_)(hl:p.L9.length<=1048576)(h:af.At w p):
  k_ J3 152 #[a_ p.cells,i_ j_ id] w λe w'=>e=r_ (i_ j_ (place (p.L9.map (·.id)) id 0))/\B_ w.heap.size w w':=by
 have H:da (bJ.bU (w.alloc (c_ p.cells 46)) p.ay p.L9/\B_ w.heap.size w (w.alloc (c_ p.cells 46))):=⟨h.2.2.1.below ((Kp _ _).alloc (Ki _) _),(Kp _ _).alloc (Ki _) _⟩
 have q:(w.alloc (c_ p.cells 46)).cell? ⟨w.heap.size,4,n_⟩=o_ (s_ p.ay p.L9.length p.aO):=ZcH
 clear h;generalize p.L9=l at*;unfold af.cells at*
 go_enter func152,ntmps152
 go_wp2_with fail;generalize w.alloc (c_ p.row 46)=W at*;have K:=@j4
 exact fd
def mg (p:af)(id:Int)(w:w_)(hl:p.ag.length<=1048576)(h:af.At w p):
  k_ J3 154 #[a_ p.cells,i_ j_ id] w λe w'=>e=r_ (i_ j_ (place (p.ag.map (·.id)) id 0))/\B_ w.heap.size w w':=by
 have H:da (bG.bU (w.alloc (c_ p.cells 46)) p.ax p.ag/\B_ w.heap.size w (w.alloc (c_ p.cells 46))):=⟨h.2.2.2.1.below ((Kp _ _).alloc (Ki _) _),(Kp _ _).alloc (Ki _) _⟩
 have q:(w.alloc (c_ p.cells 46)).cell? ⟨w.heap.size,5,n_⟩=o_ (s_ p.ax p.ag.length p.aP):=ZcH
 clear h;generalize p.ag=l at*;unfold af.cells at*
 go_enter func154,ntmps154
 go_wp2_with fail;generalize w.alloc (c_ p.row 46)=W at*;have K:=@jr
 exact fd
def lr (p:af)(id:Int)(w:w_)(hl:p.ae.length<=1048576)(h:af.At w p):
  k_ J3 153 #[a_ p.cells,i_ j_ id] w λe w'=>e=r_ (i_ j_ (place (p.ae.map (·.id)) id 0))/\B_ w.heap.size w w':=by
 have H:da (bm.bU (w.alloc (c_ p.cells 46)) p.am p.ae/\B_ w.heap.size w (w.alloc (c_ p.cells 46))):=⟨h.2.2.2.2.1.below ((Kp _ _).alloc (Ki _) _),(Kp _ _).alloc (Ki _) _⟩
 have q:(w.alloc (c_ p.cells 46)).cell? ⟨w.heap.size,6,n_⟩=o_ (s_ p.am p.ae.length p.aG):=ZcH
 clear h;generalize p.ae=l at*;unfold af.cells at*
 go_enter func153,ntmps153
 go_wp2_with fail;generalize w.alloc (c_ p.row 46)=W at*;have K:=@iA
 exact fd
def uV (p:af)(id:Int)(w:w_)(hl:p.ai.length<=1048576)(h:af.At w p):
  k_ J3 55 #[a_ p.cells,i_ j_ id] w λe w'=>e=r_ (i_ j_ (place (p.ai.map (·.id)) id 0))/\B_ w.heap.size w w':=by
 have H:da (bX.bU (w.alloc (c_ p.cells 46)) p.aK p.ai/\B_ w.heap.size w (w.alloc (c_ p.cells 46))):=⟨h.2.2.2.2.2.below ((Kp _ _).alloc (Ki _) _),(Kp _ _).alloc (Ki _) _⟩
 have q:(w.alloc (c_ p.cells 46)).cell? ⟨w.heap.size,7,n_⟩=o_ (s_ p.aK p.ai.length p.aV):=ZcH
 clear h;generalize p.ai=l at*;unfold af.cells at*
 go_enter func55,ntmps55
 go_wp2_with fail;generalize w.alloc (c_ p.row 46)=W at*;have K:=@lm
 exact fd
def dJ (l:List ByteArray)(Me:Int):Bool:=l.all bw&&decide ((l.length:Int)<=Me)
def xL {l:List ByteArray}{Me:Int}{k:Nat}{x:ByteArray}(hx:l[k]? =o_ x)(h:bw x=false):dJ l Me=false:=by
 have:l.all bw=false:=by
  rw[List.all_eq_false];exact⟨x,KA hx,by simp[h]⟩
 simp[dJ,this]
def pQ {l:List ByteArray}{k:Nat}{x:ByteArray}(h:(l.take k).all bw=true)(hx:l[k]? =o_ x)(hp:bw x=true):(l.take (k+1)).all bw=true:=by
 have hk:k<l.length:=(Lj.1 hx).1;rw[QE hk,List.all_append,h];rw[Kz hk]at hx;cases hx;simp[hp]
def zl {w:w_}{a:Option d_}{l:List ByteArray}(h:Row w a (bT.flat l)){k:Nat}{x:ByteArray}(hx:l[k]? =o_ x):∃g,a=o_ ⟨g,0,n_⟩/\w.cell? ⟨g,k,n_⟩=o_ (t_ x):=by
 have h1:(bT.flat l)[k]? =o_ (t_ x):=by
  have:=bT.jw hx (j:=0) (by decide)
  simpa[bT]using this
 exact h k _ h1
def Aj (a:Option d_)(l:List ByteArray)(cap:Nat)(Me:Int)(w:w_)(hl:l.length<=1048576)(hs:∀x∈l,x.size<=1048576)(h:Row w a (bT.flat l)):
  k_ J3 114 #[s_ a l.length cap,i_ j_ Me] w λe w'=>e=r_ (b_ (dJ l Me))/\w'=w:=by
 have H:da (Row w a (bT.flat l)/\∀x∈l,x.size<=1048576):=⟨h,hs⟩
 clear h hs
 go_enter func114,ntmps114
 go_wp2_with fail
 go_loop [5] (λi=>∃k:Nat,k<=l.length/\i=i_ j_ k/\da ((l.take k).all bw=true)) (λi=>l.length-(intOf i).toNat)
 case atStart=>exact ZfD
 case round=>
  obtain⟨k,hk,rfl,HA⟩:=hrel;by_cases hlt:k<l.length
  .have i0:(0:Int)<=(k:Int):=zw
   have i1:(k:Int)<(l.length:Int):=zw
   obtain⟨x,hx⟩:∃x,l[k]? =o_ x:=⟨_,Kz hlt⟩
   have HX:da (l[k]? =o_ x):=hx;obtain⟨g,rfl,c0⟩:=zl H.I.1 hx;have hxs:=H.I.2 x (KA hx);clear hx;go_wp2_with fail;refine(jC x w hxs).mono ?_;rintro e w' ⟨rfl,rfl⟩;cases hp:bw x with
   |true=>
    exact Zau
   |false=>
    have HP:da (bw x=false):=hp;clear hp;go_wp2;go_ret;exact⟨al (xL HX.I HP.I).symm,rfl⟩
  .have i1:¬(k:Int)<(l.length:Int):=zw
   have HT:da (l.all bw=true):=Zfw
   have e1:wrap64 (l.length:Int)=l.length:=Zc8
   go_wp2;go_ret;exact⟨al (by rw[dJ,HT.I];simp),rfl⟩
def hasB (p:aE)(Md id:Int):Bool:=
 if Md=3 then decide (id∈p.aj.map (·.id))else if Md=4 then decide (id∈p.L9.map (·.id))
 else if Md=5\/Md=6 then decide (id∈p.ae.map (·.id))else if Md=7 then decide (id∈p.ag.map (·.id))else false
def mV (l:List Int)(id:Int):decide (0<=place l id 0)=decide (id∈l):=by
 by_cases h:id∈l
 .rw [decide_eq_true h]
  rcases z8 l id 0 with h1|h1
  .exact absurd h (nN.1 h1)
  .exact decide_eq_true Zfh
 .rw [decide_eq_false h,nN.2 h]
  rfl
structure af.dX (p:af):Prop where
 L8:p.L8.length<=1048576
 aj:p.aj.length<=1048576
 L9:p.L9.length<=1048576
 ag:p.ag.length<=1048576
 ae:p.ae.length<=1048576
 ai:p.ai.length<=1048576
def xT (p:af)(Md id:Int)(w:w_)(hl:p.dX)(h:af.At w p):
  k_ J3 116 #[a_ p.cells,i_ j_ Md,i_ j_ id] w λe w'=>e=r_ (b_ (hasB p.pure Md id))/\B_ w.heap.size w w':=by
 have hp:p.cells=p.row:=rfl;have H:da ((af.At (w.alloc (c_ p.cells 46)) p/\B_ w.heap.size w (w.alloc (c_ p.cells 46)))/\p.dX):=⟨⟨h.below ((Kp _ _).alloc (Ki _) _),(Kp _ _).alloc (Ki _) _⟩,hl⟩
 rw[hp]at H;rw[hp];clear h hl hp;by_cases s3:Md=3
 .subst s3
  go_enter func116,ntmps116
  go_wp2_with fail;refine(lw p id _ H.I.2.aj H.I.1.1).mono ?_;rintro e w1 ⟨rfl,hb1⟩;have HB:da (B_ w.heap.size w w1):=H.I.1.2.trans (hb1.mono zy);have HM:da (decide (0<=place (p.aj.map (·.id)) id 0)=decide (id∈p.aj.map (·.id))):=mV _ id;exact N_
 by_cases s4:Md=4
 .subst s4
  go_enter func116,ntmps116
  go_wp2_with fail;refine(ml p id _ H.I.2.L9 H.I.1.1).mono ?_;rintro e w1 ⟨rfl,hb1⟩;have HB:da (B_ w.heap.size w w1):=H.I.1.2.trans (hb1.mono zy);have HM:da (decide (0<=place (p.L9.map (·.id)) id 0)=decide (id∈p.L9.map (·.id))):=mV _ id;exact N_
 by_cases s5:Md=5
 .subst s5
  exact BC
 by_cases s6:Md=6
 .subst s6
  exact BC
 by_cases s7:Md=7
 .subst s7
  go_enter func116,ntmps116
  go_wp2_with fail;refine(mg p id _ H.I.2.ag H.I.1.1).mono ?_;rintro e w1 ⟨rfl,hb1⟩;have HB:da (B_ w.heap.size w w1):=H.I.1.2.trans (hb1.mono zy);have HM:da (decide (0<=place (p.ag.map (·.id)) id 0)=decide (id∈p.ag.map (·.id))):=mV _ id;exact N_
 have e3:(Md==3)=false:=by simp[s3]
 have e4:(Md==4)=false:=by simp[s4]
 have e5:(Md==5)=false:=by simp[s5]
 have e6:(Md==6)=false:=by simp[s6]
 have e7:(Md==7)=false:=by simp[s7]
 have HN:da (hasB p.pure Md id=false):=by show hasB p.pure Md id=false;simp[hasB,s3,s4,s5,s6,s7]
 clear s3 s4 s5 s6 s7
 go_enter func116,ntmps116
 go_wp2;go_ret;exact⟨al HN.I.symm,H.I.1.2⟩
end
section
attribute [local go_sem ↓] Go.wp_at_zero Go.wp_at_succ
def pu (k:Int)(w:w_):k_ J3 247 #[a_ #[i_ j_ k]] w λe w'=>e=r_ (a_ #[i_ j_ k,i_ j_ 0,i_ j_ 0,t_ ByteArray.empty])/\B_ w.heap.size w w':=by
 go_enter func247,ntmps247
 go_wp2;exact KT (v:=a_ #[i_ j_ k,i_ j_ 0,i_ j_ 0,t_ ByteArray.empty]) (by simp[results,results247,go_sem];try rfl) rfl ⟨rfl,Zck⟩
def oJ (k n:Int)(w:w_):k_ J3 243 #[a_ #[i_ j_ k,i_ j_ n]] w λe w'=>e=r_ (a_ #[i_ j_ k,i_ j_ n,i_ j_ 0,t_ ByteArray.empty])/\B_ w.heap.size w w':=by
 go_enter func243,ntmps243
 go_wp2;exact KT (v:=a_ #[i_ j_ k,i_ j_ n,i_ j_ 0,t_ ByteArray.empty]) (by simp[results,results243,go_sem];try rfl) rfl ⟨rfl,Zck⟩
def xk (k n m:Int)(w:w_):k_ J3 244 #[a_ #[i_ j_ k,i_ j_ n,i_ j_ m]] w λe w'=>e=r_ (a_ #[i_ j_ k,i_ j_ n,i_ j_ m,t_ ByteArray.empty])/\B_ w.heap.size w w':=by
 go_enter func244,ntmps244
 go_wp2;exact KT (v:=a_ #[i_ j_ k,i_ j_ n,i_ j_ m,t_ ByteArray.empty]) (by simp[results,results244,go_sem];try rfl) rfl ⟨rfl,Zck⟩
def Fc (k n m:Int)(s:ByteArray)(w:w_):k_ J3 245 #[a_ #[i_ j_ k,i_ j_ n,i_ j_ m,t_ s]] w λe w'=>e=r_ (a_ #[i_ j_ k,i_ j_ n,i_ j_ m,t_ s])/\B_ w.heap.size w w':=by
 go_enter func245,ntmps245
 go_wp2;exact KT (v:=a_ #[i_ j_ k,i_ j_ n,i_ j_ m,t_ s]) (by simp[results,results245,go_sem];try rfl) rfl ⟨rfl,Zck⟩
def xS (k n:Int)(s:ByteArray)(w:w_):k_ J3 246 #[a_ #[i_ j_ k,i_ j_ n,t_ s]] w λe w'=>e=r_ (a_ #[i_ j_ k,i_ j_ n,i_ j_ 0,t_ s])/\B_ w.heap.size w w':=by
 go_enter func246,ntmps246
 go_wp2;exact KT (v:=a_ #[i_ j_ k,i_ j_ n,i_ j_ 0,t_ s]) (by simp[results,results246,go_sem];try rfl) rfl ⟨rfl,Zck⟩
def DB (k n m:Int)(s:ByteArray)(w:w_)(hk:pJ k):
  k_ J3 226 #[a_ #[i_ j_ k,i_ j_ n,i_ j_ m,t_ s]] w λe w'=>e=r_ (u_ #[.iface 295 (a_ #[i_ j_ k,i_ j_ n]),b_ true])/\B_ w.heap.size w w':=by
 rcases hk with rfl|rfl|rfl|rfl|rfl|rfl|rfl|rfl|rfl
 all_goals
  go_enter func226,ntmps226
  go_wp2;go_ret2;exact⟨rfl,Zck⟩
def AC (k n m:Int)(s:ByteArray)(w:w_)(hk:mF k):
  k_ J3 226 #[a_ #[i_ j_ k,i_ j_ n,i_ j_ m,t_ s]] w λe w'=>e=r_ (u_ #[.iface 297 (a_ #[i_ j_ k,i_ j_ n,i_ j_ m]),b_ true])/\B_ w.heap.size w w':=by
 rcases hk with rfl|rfl|rfl|rfl
 all_goals
  go_enter func226,ntmps226
  go_wp2;go_ret2;exact⟨rfl,Zck⟩
def AE (k n m:Int)(s:ByteArray)(w:w_)(hk:k=8):
  k_ J3 226 #[a_ #[i_ j_ k,i_ j_ n,i_ j_ m,t_ s]] w λe w'=>e=r_ (u_ #[.iface 299 (a_ #[i_ j_ k,i_ j_ n,i_ j_ m,t_ s]),b_ true])/\B_ w.heap.size w w':=by
 exact ZaZ
def BJ (k n m:Int)(s:ByteArray)(w:w_)(hk:isText k):
  k_ J3 226 #[a_ #[i_ j_ k,i_ j_ n,i_ j_ m,t_ s]] w λe w'=>e=r_ (u_ #[.iface 301 (a_ #[i_ j_ k,i_ j_ n,t_ s]),b_ true])/\B_ w.heap.size w w':=by
 rcases hk with rfl|rfl
 all_goals
  go_enter func226,ntmps226
  go_wp2;go_ret2;exact⟨rfl,Zck⟩
def Ag (k n m:Int)(s:ByteArray)(w:w_)(hk:k=17):
  k_ J3 226 #[a_ #[i_ j_ k,i_ j_ n,i_ j_ m,t_ s]] w λe w'=>e=r_ (u_ #[.iface 303 (a_ #[i_ j_ k]),b_ true])/\B_ w.heap.size w w':=by
 exact ZaZ
def BR (k n m:Int)(s:ByteArray)(w:w_)(hk:¬(1<=k/\k<=17)):
  k_ J3 226 #[a_ #[i_ j_ k,i_ j_ n,i_ j_ m,t_ s]] w λe w'=>e=r_ (u_ #[.iface 303 (a_ #[i_ j_ 0]),b_ false])/\B_ w.heap.size w w':=by
 have e1:(k==1)=false:=ZbI
 have e2:(k==2)=false:=ZbI
 have e3:(k==3)=false:=ZbI
 have e4:(k==4)=false:=ZbI
 have e5:(k==5)=false:=ZbI
 have e6:(k==6)=false:=ZbI
 have e7:(k==7)=false:=ZbI
 have e8:(k==8)=false:=ZbI
 have e9:(k==9)=false:=ZbI
 have Pn:(k==10)=false:=ZbI
 have e11:(k==11)=false:=ZbI
 have PF:(k==12)=false:=ZbI
 have PG:(k==13)=false:=ZbI
 have e14:(k==14)=false:=ZbI
 have e15:(k==15)=false:=ZbI
 have e16:(k==16)=false:=ZbI
 have PH:(k==17)=false:=ZbI
 go_enter func226,ntmps226
 go_wp2;go_ret2;exact⟨rfl,Zck⟩
def cQ {w w1:w_}{cs:Array v_}{t:T_}(h:B_ (w.alloc (c_ cs t)).heap.size (w.alloc (c_ cs t)) w1)(i:Nat):w1.cell? ⟨w.heap.size,i,n_⟩=cs[i]?:=
  (h.cell (p:=⟨w.heap.size,i,n_⟩) zy).trans zy
def ev {B:Nat}{w w':w_}(h:B_ B w.drew w'):B_ B w w':=⟨h.os,h.tape,h.output,h.size,h.block⟩
def bd {B:Nat}{w w':w_}(h:B_ B w w')(n:Nat):B_ B w (w'.drewN n):=⟨h.os,h.tape,h.output,h.size,h.block⟩
def dQ {w w1 w2:w_}{k n m:Int}{s:ByteArray}(HB:da (B_ w.heap.size w w1))(HS:da (w.heap.size<w1.heap.size))(c0:w1.cell? ⟨w.heap.size,0,n_⟩=o_ (i_ j_ k))(c1:w1.cell? ⟨w.heap.size,1,n_⟩=o_ (i_ j_ n))(c2:w1.cell? ⟨w.heap.size,2,n_⟩=o_ (i_ j_ m))(c3:w1.cell? ⟨w.heap.size,3,n_⟩=o_ (t_ s))(hb:B_ w1.heap.size w1 w2):
    da (B_ w.heap.size w w2)/\da (w.heap.size<w2.heap.size)/\w2.cell? ⟨w.heap.size,0,n_⟩=o_ (i_ j_ k)/\w2.cell? ⟨w.heap.size,1,n_⟩=o_ (i_ j_ n)/\w2.cell? ⟨w.heap.size,2,n_⟩=o_ (i_ j_ m)/\w2.cell? ⟨w.heap.size,3,n_⟩=o_ (t_ s):=
  ⟨HB.I.trans (hb.mono (aew HS.I)),Kn HS.I hb.size,(hb.cell (p:=⟨w.heap.size,0,n_⟩) HS.I).trans c0,(hb.cell (p:=⟨w.heap.size,1,n_⟩) HS.I).trans c1,(hb.cell (p:=⟨w.heap.size,2,n_⟩) HS.I).trans c2,(hb.cell (p:=⟨w.heap.size,3,n_⟩) HS.I).trans c3⟩
def IF {k n m:Int}{s:ByteArray}(h:pJ k):mQ k n m s=(cv n 1 1000&&decide (m=0)&&bI s):=by
  unfold pJ at h;unfold mQ;rw[if_pos h]
def Gv {k n m:Int}{s:ByteArray}(h:mF k):mQ k n m s=(cv n 1 1000&&cv m (-1) 1000&&bI s):=by
  unfold mF at h;unfold mQ;rw[if_neg zw,if_pos h]
def He {k n m:Int}{s:ByteArray}(h:k=8):mQ k n m s=(cv n 1 1000&&cv m (-1) 1000&&bw s):=by
  unfold mQ;rw[if_neg zw,if_neg zw,if_pos h]
def F1 {k n m:Int}{s:ByteArray}(h:isText k):mQ k n m s=(cv n 1 1000&&decide (m=0)&&bw s):=by
  unfold isText at h;unfold mQ;rw[if_neg zw,if_neg zw,if_neg zw,if_pos h]
def Gm {k n m:Int}{s:ByteArray}(h:k=17):mQ k n m s=(decide (n=0)&&decide (m=0)&&bI s):=by
  unfold mQ;rw[if_neg zw,if_neg zw,if_neg zw,if_neg zw,if_pos h]
def Du (k n m:Int)(s:ByteArray)(w:w_)(hk:pJ k):
    k_ J3 223 #[a_ #[i_ j_ k,i_ j_ n,i_ j_ m,t_ s]] w λe w'=>e=r_ (b_ (mQ k n m s))/\B_ w.heap.size w w':=by
  have HO:da (mQ k n m s=(cv n 1 1000&&decide (m=0)&&bI s)):=IF hk;have HK:da (pJ k):=hk;clear hk
  go_enter func223,ntmps223
  go_wp2_with fail;refine(DB k n m s _ HK.I).mono ?_;rintro e w1 ⟨rfl,hb1⟩;have c0:w1.cell? ⟨w.heap.size,0,n_⟩=o_ (i_ j_ k):=cQ hb1 0;have c1:w1.cell? ⟨w.heap.size,1,n_⟩=o_ (i_ j_ n):=cQ hb1 1;have c2:w1.cell? ⟨w.heap.size,2,n_⟩=o_ (i_ j_ m):=cQ hb1 2;have c3:w1.cell? ⟨w.heap.size,3,n_⟩=o_ (t_ s):=cQ hb1 3;have fQ:da (B_ w.heap.size w w1):=((Kp _ _).alloc (Ki _) _).trans (hb1.mono zy);have mH:da (w.heap.size<w1.heap.size):=Zcr
  clear hb1;by_cases hm:m=0;rotate_left
  . have hm':¬0=m:=λh=>hm h.symm
    go_wp2_with fail
    first
      | (go_region_with
      ((first
        | (go_at_call 243
           refine(oJ _ _ _).mono ?_;rintro e w2 ⟨rfl,hb2⟩;obtain⟨cy,mO,d0,d1,d2,d3⟩:=dQ fQ mH c0 c1 c2 c3 (ev hb2);clear hb2)
        | (go_at_call 227
           refine(mC _ _ _).mono ?_;rintro e w3 ⟨rfl,hb3⟩;obtain⟨oh,-,f0,f1,f2,f3⟩:=dQ cy mO d0 d1 d2 d3 hb3;clear hb3))))
      |(exact absurd rfl ZcD)
    all_goals go_wp2
    all_goals go_ret
    all_goals exact⟨al Ze7,cy.I⟩
  subst hm;by_cases hes:s.toList=[]
  rotate_left
  . have hes':¬[]=s.toList:=λh=>hes h.symm
    have hem:bI s=false:=Zek
    go_wp2_with fail
    first
      | (go_region_with
      ((first
        | (go_at_call 243
           refine(oJ _ _ _).mono ?_;rintro e w2 ⟨rfl,hb2⟩;obtain⟨cy,mO,d0,d1,d2,d3⟩:=dQ fQ mH c0 c1 c2 c3 (ev hb2);clear hb2)
        | (go_at_call 227
           refine(mC _ _ _).mono ?_;rintro e w3 ⟨rfl,hb3⟩;obtain⟨oh,-,f0,f1,f2,f3⟩:=dQ cy mO d0 d1 d2 d3 hb3;clear hb3))))
      |(exact absurd rfl ZcD)
    all_goals go_wp2
    all_goals go_ret
    all_goals exact⟨al Ze1,cy.I⟩
  have hem:bI s=true:=Zek
  go_wp2_with fail
  first
    | (go_region_with
    ((first
      | (go_at_call 243
         refine(oJ _ _ _).mono ?_;rintro e w2 ⟨rfl,hb2⟩;obtain⟨cy,mO,d0,d1,d2,d3⟩:=dQ fQ mH c0 c1 c2 c3 (ev hb2);clear hb2)
      | (go_at_call 227
         refine(mC _ _ _).mono ?_;rintro e w3 ⟨rfl,hb3⟩;obtain⟨oh,-,f0,f1,f2,f3⟩:=dQ cy mO d0 d1 d2 d3 hb3;clear hb3))))
    |(exact absurd rfl ZcD)
  all_goals go_wp2
  all_goals go_ret
  all_goals exact⟨al Zej,oh.I⟩
def AB (k n m:Int)(s:ByteArray)(w:w_)(hk:mF k):
    k_ J3 223 #[a_ #[i_ j_ k,i_ j_ n,i_ j_ m,t_ s]] w λe w'=>e=r_ (b_ (mQ k n m s))/\B_ w.heap.size w w':=by
  have HO:da (mQ k n m s=(cv n 1 1000&&cv m (-1) 1000&&bI s)):=Gv hk;have HK:da (mF k):=hk;clear hk
  go_enter func223,ntmps223
  go_wp2_with fail;refine(AC k n m s _ HK.I).mono ?_;rintro e w1 ⟨rfl,hb1⟩;have c0:w1.cell? ⟨w.heap.size,0,n_⟩=o_ (i_ j_ k):=cQ hb1 0;have c1:w1.cell? ⟨w.heap.size,1,n_⟩=o_ (i_ j_ n):=cQ hb1 1;have c2:w1.cell? ⟨w.heap.size,2,n_⟩=o_ (i_ j_ m):=cQ hb1 2;have c3:w1.cell? ⟨w.heap.size,3,n_⟩=o_ (t_ s):=cQ hb1 3;have fQ:da (B_ w.heap.size w w1):=((Kp _ _).alloc (Ki _) _).trans (hb1.mono zy);have mH:da (w.heap.size<w1.heap.size):=Zcr
  clear hb1;by_cases hes:s.toList=[]
  rotate_left
  . have hes':¬[]=s.toList:=λh=>hes h.symm
    have hem:bI s=false:=Zek
    go_wp2_with fail
    first
      | (go_region_with
      ((first
        | (go_at_call 244
           refine(xk _ _ _ _).mono ?_;rintro e w2 ⟨rfl,hb2⟩;obtain⟨cy,mO,d0,d1,d2,d3⟩:=dQ fQ mH c0 c1 c2 c3 (ev hb2);clear hb2)
        | (go_at_call 227
           refine(sH _ _ _ _).mono ?_;rintro e w3 ⟨rfl,hb3⟩;obtain⟨oh,-,f0,f1,f2,f3⟩:=dQ cy mO d0 d1 d2 d3 hb3;clear hb3))))
      |(exact absurd rfl ZcD)
    all_goals go_wp2
    all_goals go_ret
    all_goals exact⟨al Ze1,cy.I⟩
  have hem:bI s=true:=Zek
  go_wp2_with fail
  first
    | (go_region_with
    ((first
      | (go_at_call 244
         refine(xk _ _ _ _).mono ?_;rintro e w2 ⟨rfl,hb2⟩;obtain⟨cy,mO,d0,d1,d2,d3⟩:=dQ fQ mH c0 c1 c2 c3 (ev hb2);clear hb2)
      | (go_at_call 227
         refine(sH _ _ _ _).mono ?_;rintro e w3 ⟨rfl,hb3⟩;obtain⟨oh,-,f0,f1,f2,f3⟩:=dQ cy mO d0 d1 d2 d3 hb3;clear hb3))))
    |(exact absurd rfl ZcD)
  all_goals go_wp2
  all_goals go_ret
  all_goals exact⟨al Zej,oh.I⟩
def BY (k n m:Int)(s:ByteArray)(w:w_)(hs:s.size<=1048576)(hk:k=8):
    k_ J3 223 #[a_ #[i_ j_ k,i_ j_ n,i_ j_ m,t_ s]] w λe w'=>e=r_ (b_ (mQ k n m s))/\B_ w.heap.size w w':=by
  have HO:da (mQ k n m s=(cv n 1 1000&&cv m (-1) 1000&&bw s)):=He hk;have HK:da (k=8):=hk;clear hk
  go_enter func223,ntmps223
  go_wp2_with fail;refine(AE k n m s _ HK.I).mono ?_;rintro e w1 ⟨rfl,hb1⟩;have c0:w1.cell? ⟨w.heap.size,0,n_⟩=o_ (i_ j_ k):=cQ hb1 0;have c1:w1.cell? ⟨w.heap.size,1,n_⟩=o_ (i_ j_ n):=cQ hb1 1;have c2:w1.cell? ⟨w.heap.size,2,n_⟩=o_ (i_ j_ m):=cQ hb1 2;have c3:w1.cell? ⟨w.heap.size,3,n_⟩=o_ (t_ s):=cQ hb1 3;have fQ:da (B_ w.heap.size w w1):=((Kp _ _).alloc (Ki _) _).trans (hb1.mono zy);have mH:da (w.heap.size<w1.heap.size):=Zcr
  clear hb1;go_wp2_with fail
  first
    | (go_region_with
    ((first
      | (go_at_call 245
         refine(Fc _ _ _ _ _).mono ?_;rintro e w2 ⟨rfl,hb2⟩;obtain⟨cy,mO,d0,d1,d2,d3⟩:=dQ fQ mH c0 c1 c2 c3 (ev hb2);clear hb2)
      | (go_at_call 227
         refine(Bc _ _ _ _ _ hs).mono ?_;rintro e w3 ⟨rfl,hb3⟩;obtain⟨oh,-,f0,f1,f2,f3⟩:=dQ cy mO d0 d1 d2 d3 hb3;clear hb3))))
    |(exact absurd rfl ZcD)
  all_goals go_wp2
  all_goals go_ret
  all_goals exact⟨al (by rw[HO.I]),oh.I⟩
def BN (k n m:Int)(s:ByteArray)(w:w_)(hs:s.size<=1048576)(hk:isText k):
    k_ J3 223 #[a_ #[i_ j_ k,i_ j_ n,i_ j_ m,t_ s]] w λe w'=>e=r_ (b_ (mQ k n m s))/\B_ w.heap.size w w':=by
  have HO:da (mQ k n m s=(cv n 1 1000&&decide (m=0)&&bw s)):=F1 hk;have HK:da (isText k):=hk;clear hk
  go_enter func223,ntmps223
  go_wp2_with fail;refine(BJ k n m s _ HK.I).mono ?_;rintro e w1 ⟨rfl,hb1⟩;have c0:w1.cell? ⟨w.heap.size,0,n_⟩=o_ (i_ j_ k):=cQ hb1 0;have c1:w1.cell? ⟨w.heap.size,1,n_⟩=o_ (i_ j_ n):=cQ hb1 1;have c2:w1.cell? ⟨w.heap.size,2,n_⟩=o_ (i_ j_ m):=cQ hb1 2;have c3:w1.cell? ⟨w.heap.size,3,n_⟩=o_ (t_ s):=cQ hb1 3;have fQ:da (B_ w.heap.size w w1):=((Kp _ _).alloc (Ki _) _).trans (hb1.mono zy);have mH:da (w.heap.size<w1.heap.size):=Zcr
  clear hb1;by_cases hm:m=0;rotate_left
  . have hm':¬0=m:=λh=>hm h.symm
    go_wp2_with fail
    first
      | (go_region_with
      ((first
        | (go_at_call 246
           refine(xS _ _ _ _).mono ?_;rintro e w2 ⟨rfl,hb2⟩;obtain⟨cy,mO,d0,d1,d2,d3⟩:=dQ fQ mH c0 c1 c2 c3 (ev hb2);clear hb2)
        | (go_at_call 227
           refine(sL _ _ _ _ hs).mono ?_;rintro e w3 ⟨rfl,hb3⟩;obtain⟨oh,-,f0,f1,f2,f3⟩:=dQ cy mO d0 d1 d2 d3 hb3;clear hb3))))
      |(exact absurd rfl ZcD)
    all_goals go_wp2
    all_goals go_ret
    all_goals exact⟨al Ze7,cy.I⟩
  subst hm;go_wp2_with fail
  first
    | (go_region_with
    ((first
      | (go_at_call 246
         refine(xS _ _ _ _).mono ?_;rintro e w2 ⟨rfl,hb2⟩;obtain⟨cy,mO,d0,d1,d2,d3⟩:=dQ fQ mH c0 c1 c2 c3 (ev hb2);clear hb2)
      | (go_at_call 227
         refine(sL _ _ _ _ hs).mono ?_;rintro e w3 ⟨rfl,hb3⟩;obtain⟨oh,-,f0,f1,f2,f3⟩:=dQ cy mO d0 d1 d2 d3 hb3;clear hb3))))
    |(exact absurd rfl ZcD)
  all_goals go_wp2
  all_goals go_ret
  all_goals exact⟨al Zej,oh.I⟩
def zY (k n m:Int)(s:ByteArray)(w:w_)(hk:k=17):
    k_ J3 223 #[a_ #[i_ j_ k,i_ j_ n,i_ j_ m,t_ s]] w λe w'=>e=r_ (b_ (mQ k n m s))/\B_ w.heap.size w w':=by
  have HO:da (mQ k n m s=(decide (n=0)&&decide (m=0)&&bI s)):=Gm hk;have HK:da (k=17):=hk;clear hk
  go_enter func223,ntmps223
  go_wp2_with fail;refine(Ag k n m s _ HK.I).mono ?_;rintro e w1 ⟨rfl,hb1⟩;have c0:w1.cell? ⟨w.heap.size,0,n_⟩=o_ (i_ j_ k):=cQ hb1 0;have c1:w1.cell? ⟨w.heap.size,1,n_⟩=o_ (i_ j_ n):=cQ hb1 1;have c2:w1.cell? ⟨w.heap.size,2,n_⟩=o_ (i_ j_ m):=cQ hb1 2;have c3:w1.cell? ⟨w.heap.size,3,n_⟩=o_ (t_ s):=cQ hb1 3;have fQ:da (B_ w.heap.size w w1):=((Kp _ _).alloc (Ki _) _).trans (hb1.mono zy);have mH:da (w.heap.size<w1.heap.size):=Zcr
  clear hb1;by_cases hn:n=0;rotate_left
  . have hn':¬0=n:=λh=>hn h.symm
    go_wp2_with fail
    first
      | (go_region_with
      ((first
        | (go_at_call 247
           refine(pu _ _).mono ?_;rintro e w2 ⟨rfl,hb2⟩;obtain⟨cy,mO,d0,d1,d2,d3⟩:=dQ fQ mH c0 c1 c2 c3 (ev hb2);clear hb2)
        | (go_at_call 227
           refine(my _ _).mono ?_;rintro e w3 ⟨rfl,hb3⟩;obtain⟨oh,-,f0,f1,f2,f3⟩:=dQ cy mO d0 d1 d2 d3 hb3;clear hb3))))
      |(exact absurd rfl ZcD)
    all_goals go_wp2
    all_goals go_ret
    all_goals exact⟨al (by rw[HO.I];simp[hn]),cy.I⟩
  subst hn;by_cases hm:m=0;rotate_left
  . have hm':¬0=m:=λh=>hm h.symm
    go_wp2_with fail
    first
      | (go_region_with
      ((first
        | (go_at_call 247
           refine(pu _ _).mono ?_;rintro e w2 ⟨rfl,hb2⟩;obtain⟨cy,mO,d0,d1,d2,d3⟩:=dQ fQ mH c0 c1 c2 c3 (ev hb2);clear hb2)
        | (go_at_call 227
           refine(my _ _).mono ?_;rintro e w3 ⟨rfl,hb3⟩;obtain⟨oh,-,f0,f1,f2,f3⟩:=dQ cy mO d0 d1 d2 d3 hb3;clear hb3))))
      |(exact absurd rfl ZcD)
    all_goals go_wp2
    all_goals go_ret
    all_goals exact⟨al Ze7,cy.I⟩
  subst hm;by_cases hes:s.toList=[]
  rotate_left
  . have hes':¬[]=s.toList:=λh=>hes h.symm
    have hem:bI s=false:=Zek
    go_wp2_with fail
    first
      | (go_region_with
      ((first
        | (go_at_call 247
           refine(pu _ _).mono ?_;rintro e w2 ⟨rfl,hb2⟩;obtain⟨cy,mO,d0,d1,d2,d3⟩:=dQ fQ mH c0 c1 c2 c3 (ev hb2);clear hb2)
        | (go_at_call 227
           refine(my _ _).mono ?_;rintro e w3 ⟨rfl,hb3⟩;obtain⟨oh,-,f0,f1,f2,f3⟩:=dQ cy mO d0 d1 d2 d3 hb3;clear hb3))))
      |(exact absurd rfl ZcD)
    all_goals go_wp2
    all_goals go_ret
    all_goals exact⟨al Ze1,cy.I⟩
  have hem:bI s=true:=Zek
  go_wp2_with fail
  first
    | (go_region_with
    ((first
      | (go_at_call 247
         refine(pu _ _).mono ?_;rintro e w2 ⟨rfl,hb2⟩;obtain⟨cy,mO,d0,d1,d2,d3⟩:=dQ fQ mH c0 c1 c2 c3 (ev hb2);clear hb2)
      | (go_at_call 227
         refine(my _ _).mono ?_;rintro e w3 ⟨rfl,hb3⟩;obtain⟨oh,-,f0,f1,f2,f3⟩:=dQ cy mO d0 d1 d2 d3 hb3;clear hb3))))
    |(exact absurd rfl ZcD)
  all_goals go_wp2
  all_goals go_ret
  all_goals exact⟨al Zej,oh.I⟩
def AY (k n m:Int)(s:ByteArray)(w:w_)(hk:¬(1<=k/\k<=17)):
    k_ J3 223 #[a_ #[i_ j_ k,i_ j_ n,i_ j_ m,t_ s]] w λe w'=>e=r_ (b_ (mQ k n m s))/\B_ w.heap.size w w':=by
  rw[Bd hk]
  go_enter func223,ntmps223
  go_wp2_with fail;refine(BR k n m s _ hk).mono ?_;rintro e w1 ⟨rfl,hb1⟩;have fQ:da (B_ w.heap.size w w1):=((Kp _ _).alloc (Ki _) _).trans (hb1.mono zy);clear hb1;go_wp2_with fail
  go_quiet (fail)
  go_wp2;go_ret;exact⟨rfl,bd fQ.I _⟩
def yx (k n m:Int)(s:ByteArray)(w:w_)(hs:s.size<=1048576):
    k_ J3 223 #[a_ #[i_ j_ k,i_ j_ n,i_ j_ m,t_ s]] w λe w'=>e=r_ (b_ (mQ k n m s))/\B_ w.heap.size w w':=by
  by_cases h0:1<=k/\k<=17
  . by_cases h1:pJ k
    . exact Du k n m s w h1
    by_cases h2:mF k
    . exact AB k n m s w h2
    by_cases h3:isText k
    . exact BN k n m s w hs h3
    by_cases h4:k=8
    . exact BY k n m s w hs h4
    exact zY k n m s w Zep
  . exact AY k n m s w h0
end
section
def rM:ByteArray:=⟨#[]⟩
def jm (l:List dN):Bool:=nq l.length (Cd l) (Cg l) (Ea l) (Ce l)
def gw (x:bD):Bool:=cv x.max 1 1000&&cv x.n 0 x.max
def ey (_:aB):Bool:=true
def cU (x:az):Bool:=bw x.text&&(x.shown||bI x.text)
def ct (x:ci):Bool:=cv x.max 1 5&&dJ x.Ma x.max
def dj (x:dS):Bool:=cv x.max 1 5&&(x.Mf||decide (x.max=1))&&dJ x.Ma x.max
def aw {α:Type}(num:α->Int)(ok:α->Bool):Int->List α->Bool
 |_,[]=>true
 |last,x::r=>cv (num x) 1 1000&&decide (last<num x)&&ok x&&aw num ok (num x) r
def bW {α:Type}(num:α->Int):Int->List α->Int
 |last,[]=>last
 |_,x::r=>bW num (num x) r
section
variable {α:Type}{num:α->Int}{ok:α->Bool}
def lH:∀(l r:List α)(last:Int),aw num ok last (l++r)=(aw num ok last l&&aw num ok (bW num last l) r)
 |[],r,last=>by simp[aw,bW]
 |x::l,r,last=>by
  simp only[Qw,aw,bW,lH l r (num x),Bool.and_assoc]
def pL:∀(l:List α)(x:α)(last:Int),bW num last (l++[x])=num x
 |[],_,_=>rfl
 |y::l,x,_=>pL l x (num y)
def kL {l:List α}{k:Nat}{x:α}(hx:l[k]? =o_ x):l=l.take k++x::l.drop (k+1):=by
 have hk:k<l.length:=(Lj.1 hx).1;rw[Kz hk]at hx;cases hx
 have:=Qn k l
 rw[adH hk]at this;exact this.symm
def cj {l:List α}{k:Nat}{x:α}(hx:l[k]? =o_ x):l.take (k+1)=l.take k++[x]:=by
 have hk:k<l.length:=(Lj.1 hx).1;rw[Kz hk]at hx;cases hx;exact QE hk
def eG {l:List α}{k:Nat}{x:α}(hx:l[k]? =o_ x)(last:Int):bW num last (l.take (k+1))=num x:=by
 rw[cj hx,pL]
def ed {l:List α}{k:Nat}{x:α}{last:Int}(h:aw num ok last (l.take k)=true)(hx:l[k]? =o_ x)(h1:cv (num x) 1 1000=true)(h2:bW num last (l.take k)<num x)(h3:ok x=true):aw num ok last (l.take (k+1))=true:=by
 rw[cj hx,lH,h];simp[aw,h1,h2,h3]
def bS {l:List α}{k:Nat}{x:α}{last:Int}(hx:l[k]? =o_ x)(h:¬(cv (num x) 1 1000=true/\bW num last (l.take k)<num x/\ok x=true)):aw num ok last l=false:=by
 rw[kL hx,lH]
 have:aw num ok (bW num last (l.take k)) (x::l.drop (k+1))=false:=by
  simp only[aw];cases h1:cv (num x) 1 1000<;>simp
  by_cases h2:bW num last (l.take k)<num x
  .cases h3:ok x
   .simp
   .exact absurd ⟨h1,h2,h3⟩ h
  .simp [h2]
 rw[this,PP]
def cK {l:List α}{last:Int}(h:aw num ok last l=true):∀x∈l,cv (num x) 1 1000=true/\ok x=true:=by
 induction l generalizing last with
 |nil=>intro x hx;cases hx
 |cons y r ih=>
  simp only[aw,J7]at h;intro x hx;rcases Kt.1 hx with rfl|hx
  .exact ⟨h.1.1.1,h.1.2⟩
  .exact ih h.2 x hx
def nC {ok':α->Bool}{l:List α}{last:Int}:aw num (λx=>ok x&&ok' x) last l=(aw num ok last l&&l.all ok'):=by
 induction l generalizing last with
 |nil=>rfl
 |cons y r ih=>
  simp only[aw,ih,List.all_cons];cases cv (num y) 1 1000<;>cases decide (last<num y)<;>cases ok y<;>cases ok' y<;>simp
end
def jL {α β:Type}(f:α->β)(num:β->Int)(ok:β->Bool)(l:List α)(last:Int):aw num ok last (l.map f)=aw (λx=>num (f x)) (λx=>ok (f x)) last l:=by
 induction l generalizing last with
 |nil=>rfl
 |cons y r ih=>simp only[Lt,aw,ih]
def opAt (x:aD):dN:=x.prog[x.pc.toNat]?.getD (0,0,0,rM)
def dU (x:aD):Bool:=cv x.pc 0 ((x.prog.length:Int)-1)
def jJ (x:aD):Bool:=if(opAt x).1=1 then decide (0<=x.left)&&decide (x.left<(opAt x).2.1)else decide (x.left=0)
def lh (t:Int):Bool:=cv t 1 2000000000||decide (t= -1)
def bO (x:aD):Bool:=
 if x.Md=0 then decide (x.pc=0)&&decide (x.left=0)&&decide (x.Mg=0)&&decide (x.on=0)&&decide (x.RU=0)&&bI x.held
 else if x.Md=1 then dU x&&jJ x&&decide (x.Mg=0)&&decide (x.on=0)&&bI x.held
 else if x.Md=2 then dU x&&decide (x.left=0)&&cv x.Mg 1 2000000000&&decide (x.on=0)&&bI x.held
 else if x.Md=5 then dU x&&decide (x.left=0)&&lh x.Mg
 else if x.Md=3\/x.Md=4\/x.Md=6\/x.Md=7 then dU x&&decide (x.left=0)&&lh x.Mg&&bI x.held
 else false
def cH (x:aD):Bool:=cv x.RX 1 50&&jm x.prog&&bw x.held&&bw x.got&&cv x.code 0 3&&bO x
def fF (next:Int)(x:aD):Bool:=decide (x.Md=0)||cv x.RU 1 (next-1)
def dG (p:aE)(x:aD):Bool:=if 3<=x.Md then hasB p x.Md x.on else true
def rb (l:List aD):Prop:=(l.map (·.RU)).Pairwise (λa b=>¬(a=b/\0<b))
structure aQ (p:aE):Prop where
 id:cv p.id 1 6=true
 next:cv p.next 1 1000000000=true
 dl:p.L8.length<=6
 fx:p.aj.length<=5
 cD:p.L9.length<=5
 cC:p.ag.length<=5
 cb:p.ae.length<=5
 dH:p.ai.length<=5
 L8:aw (·.id) (λx=>cH x&&fF p.next x&&dG p x) 0 p.L8=true
 aj:aw (·.id) gw 0 p.aj=true
 L9:aw (·.id) ey 0 p.L9=true
 ag:aw (·.id) cU 0 p.ag=true
 ae:aw (·.id) ct 0 p.ae=true
 ai:aw (·.id) dj 0 p.ai=true
 apart:rb p.L8
def bK (p:aE):Bool:=cv p.id 1 6&&cv p.next 1 1000000000&&decide (p.L8.length<=6)&&decide (p.aj.length<=5)&&decide (p.L9.length<=5)&&decide (p.ag.length<=5)&&decide (p.ae.length<=5)&&decide (p.ai.length<=5)&&
 aw (·.id) (λx=>cH x&&fF p.next x&&dG p x) 0 p.L8&&aw (·.id) gw 0 p.aj&&aw (·.id) ey 0 p.L9&&aw (·.id) cU 0 p.ag&&aw (·.id) ct 0 p.ae&&aw (·.id) dj 0 p.ai&&decide ((p.L8.map (·.RU)).Pairwise (λa b=>¬(a=b/\0<b)))
def ch (p:aE):bK p=true↔aQ p:=by
 simp only[bK,J7,decide_eq_true_eq];constructor
 .rintro ⟨⟨⟨⟨⟨⟨⟨⟨⟨⟨⟨⟨⟨⟨h1,h2⟩,h3⟩,h4⟩,h5⟩,h6⟩,h7⟩,h8⟩,h9⟩,h10⟩,h11⟩,h12⟩,h13⟩,h14⟩,h15⟩
  exact⟨h1,h2,h3,h4,h5,h6,h7,h8,h9,h10,h11,h12,h13,h14,h15⟩
 .intro h
  exact⟨⟨⟨⟨⟨⟨⟨⟨⟨⟨⟨⟨⟨⟨h.id,h.next⟩,h.dl⟩,h.fx⟩,h.cD⟩,h.cC⟩,h.cb⟩,h.dH⟩,h.L8⟩,h.aj⟩,h.L9⟩,h.ag⟩,h.ae⟩,h.ai⟩,h.apart⟩
def fP {p:aE}(h:aQ p):bK p=true:=(ch p).2 h
def dL {p:aE}(h:¬aQ p):bK p=false:=by
 cases hb:bK p with
 |false=>rfl
 |true=>exact absurd ((ch p).1 hb) h
end
section
open Go.Maps
def od (v:Value):Option (DataW Unit×List MemPlace):=match v with
 |.pointer (some ⟨g,0,none⟩)=>some (.lit (.int .i64 g),[])
 |_=>none
def dt (g:Nat):Value:=.pointer (some ⟨g,0,none⟩)
def qz:Option Nat->Value
 |none=>.pointer none
 |some g=>dt g
def Ie (g:Nat):od (dt g)=some (.lit (.int .i64 g),[]):=rfl
def oI {v:Value}{z:DataW Unit×List MemPlace}(h:od v=some z):∃g:Nat,v=dt g/\z=(.lit (.int .i64 g),[]):=by
 unfold od at h
 split at h
 .rename_i g
  cases h;exact⟨g,rfl,rfl⟩
 .cases h
abbrev df:=List (Int×Nat)
def nM (p:Int×Nat):Lit×DataW Unit:=(.int .i64 p.1,.lit (.int .i64 p.2))
def gA (m:df):DataW Unit:=.map (m.map nM)
def zP (m:df):Prop:=m.Pairwise (λp q=>p.1<q.1)
def cz (m:df)(k:Int):Option Nat:=(m.find? (λp=>p.1==k)).map (·.2)
def oK (p:Int×Nat):df->df
 |[]=>[p]
 |y::r=>if p.1<y.1 then p::y::r else y::oK p r
def cF (w:World)(b:Nat)(m:df):Prop:=w.ownsMap J3 2 od b m.length (gA m)/\zP m
def jb:Keyed J3 2:=int_keyed KN
def vX {k:Int}(hk:(Lit.int .i64 k).wf=true):keyOf J3 2 (.int .i64 k)=some (.int .i64 k):=keyOf_int_mk KN hk
def kH (a b:Int):(Lit.int .i64 a).sameKey (.int .i64 b)=(a==b):=by
 simp[Lit.sameKey];by_cases h:a=b<;>simp[h]
def GF (m:df)(k:Int):(m.map nM).find? (λp=>p.1.sameKey (.int .i64 k))=(m.find? (λp=>p.1==k)).map nM:=by
 induction m with
 |nil=>rfl
 |cons p r ih=>
  simp only[Lt,LL];have e:(nM p).1.sameKey (.int .i64 k)=(p.1==k):=kH _ _;rw[e];cases(p.1==k)
  .exact ih
  .rfl
def pk (m:df)(k:Int)(z:DataW Unit):(gA m).atKey (.int .i64 k) z=match cz m k with|some g=>.lit (.int .i64 g)|none=>z:=by
 simp only[gA,DataW.atKey,GF];unfold cz;cases m.find? (λp=>p.1==k)<;>rfl
def size_map (m:df):Maps.size (gA m)=m.length:=by simp[Maps.size,gA]
section
variable {w w':World}{b:Nat}{m:df}
def cF.lt (h:cF w b m):b<w.heap.size:=h.1.lt
def cF.same (h:cF w b m)(hs:w'.heap[b]? =w.heap[b]?):cF w' b m:=by
 obtain⟨⟨es,clock,hb,r⟩,h2⟩:=h;exact⟨⟨es,clock,hs.trans hb,r⟩,h2⟩
def cF.below (h:cF w b m)(hb:Below w.heap.size w w'):cF w' b m:=h.same (hb.block b h.lt)
def cF.made (w:World):cF (w.alloc (.map #[] 0)) w.heap.size []:=⟨World.ownsMap_made w J3 2 od,List.Pairwise.nil⟩
def cF.Hh (hb:w.heap[b]? =some (.map #[] 0)):cF w b []:=⟨⟨#[],0,hb,⟨zy,MapKept.stamped_empty 0,zy⟩,zy,rfl⟩,List.Pairwise.nil⟩
def cF.look (h:cF w b m){t e:TypeId}(ht:Tryz.prog.underlying t=some (.map 2 e))(hz:(zeroValue e).run J3 w=.ok (.pointer none) w){k:Int}(hk:(Lit.int .i64 k).wf=true)(c:Bool):
  (Instr.lookup t (.map (some b)) (.int .i64 k) c).run J3 w=.ok (if c then .tuple #[qz (cz m k),.bool (cz m k).isSome]else qz (cz m k)) w:=by
 obtain⟨⟨es,clock,hb,F,_,hD⟩,_⟩:=h;rcases Maps.fit_look c jb ht hz hb F (vX hk)with⟨hrun,_,hat⟩|⟨e0,y,_,_,hrun,hRv,hat,_⟩
 .have h1:=hat .nil
  rw[<-hD,pk]at h1;have h2:=hat (.lit (.bool true));rw[<-hD,pk]at h2;cases hl:cz m k with
  |none=>exact hrun
  |some g=>rw[hl]at h1;cases h1
 .obtain ⟨g,hv,rfl⟩:=oI hRv
  have h1:=hat .nil;rw[<-hD,pk]at h1;cases hl:cz m k with
  |none=>rw[hl]at h1;cases h1
  |some g'=>
   rw[hl]at h1;simp only[QZ,Q0,Int.natCast_inj,true_and]at h1;rw[hrun,hv,h1];cases c<;>rfl
def cF.len (h:cF w b m){t e:TypeId}(ht:Tryz.prog.underlying t=some (.map 2 e))(ty:TypeId):(Builtin.len_ #[t] ty #[.map (some b)]).run J3 w=.ok (.int .i64 (m.length:Int)) w:=by
 have:=h.1.len ht ty
 rwa[size_map]at this
def Bo (p:Int×Nat)(m:df):(oK p m).length=m.length+1:=by
 induction m with
 |nil=>rfl
 |cons y r ih=>
  unfold oK
  split
  .rfl
  .simp [ih]
def Gw {p q:Int×Nat}{m:df}:q∈oK p m↔q=p\/q∈m:=by
 induction m with
 |nil=>simp[oK]
 |cons y r ih=>
  unfold oK
  split
  .simp
  .simp only[Kt,ih]
   constructor
   .exact Fd
   .exact Fd
def Uz {p:Int×Nat}{m:df}(h:∀q∈m,q.1<p.1):oK p m=m++[p]:=by
 induction m with
 |nil=>rfl
 |cons y r ih=>
  have:=h y zy
  unfold oK;rw[if_neg zw,ih (λq hq=>h q (by simp[hq]))];rfl
def DD {p:Int×Nat}{m:df}(h:zP m)(hn:cz m p.1=none):zP (oK p m):=by
 induction m with
 |nil=>exact List.pairwise_singleton _ _
 |cons y r ih=>
  obtain⟨h1,h2⟩:=LM.1 h;have hy:¬y.1=p.1:=by
   intro e;simp[cz,e]at hn
  have hn':cz r p.1=none:=by
   unfold cz at hn⊢;rw[LL]at hn
   have:(y.1==p.1)=false:=Zdr
   rw[this]at hn;exact hn
  unfold oK
  split
  .rename_i hlt
   refine LM.2 ⟨λq hq=>?_,h⟩;rcases Kt.1 hq with rfl|hq
   .exact hlt
   .exact Int.lt_trans hlt (h1 q hq)
  .rename_i hge
   refine LM.2 ⟨λq hq=>?_,ih h2 hn'⟩;rcases Gw.1 hq with rfl|hq
   .omega
   .exact h1 q hq
def It {m:df}{k:Int}{g:Nat}(hn:cz m k=none):(gA m).put (.int .i64 k) (.lit (.int .i64 g))=gA (oK (k,g) m):=by
 have hf:(m.map nM).filter (λp=> !p.1.sameKey (.int .i64 k))=m.map nM:=by
  refine List.filter_eq_self.2 (λp hp=>?_);obtain⟨q,hq,rfl⟩:=Lr.1 hp;have e:(nM q).1.sameKey (.int .i64 k)=(q.1==k):=kH _ _;rw[e]
  have:m.find? (λp=>p.1==k)=none:=by simpa[cz]using hn
  have:=List.find?_eq_none.1 this q hq
  simpa using this
 show DataW.map (DataW.insert _ ((m.map nM).filter _))=_
 rw[hf]
 show DataW.map (DataW.insert (nM (k,g)) (m.map nM))=.map ((oK (k,g) m).map nM)
 congr 1
 induction m with
 |nil=>rfl
 |cons y r ih=>
  unfold oK;simp only[Lt,DataW.insert];have e:(nM (k,g)).1.before (nM y).1=decide (k<y.1):=rfl;rw[e];by_cases hlt:k<y.1
  .simp [hlt]
  .have hn':cz r k=none:=by
    unfold cz at hn⊢;rw[LL]at hn
    split at hn
    .cases hn
    .exact hn
   have hf':(r.map nM).filter (λp=> !p.1.sameKey (.int .i64 k))=r.map nM:=by
    simp only[Lt,LN]at hf
    split at hf
    .exact (List.cons.inj hf).2
    .have:=congrArg List.length hf
     have h2:=Qq (λp:Lit×DataW Unit=> !p.1.sameKey (.int .i64 k)) (r.map nM);simp only[Lg]at this;omega
   simp only[hlt,decide_false,J5,if_false];rw[ih hn' hf'];simp
def cF.put (h:cF w b m){t e:TypeId}(ht:Tryz.prog.underlying t=some (.map 2 e)){k:Int}(hk:(Lit.int .i64 k).wf=true)(g:Nat)(hn:cz m k=none)(hm:m.length<=1048576):
  ∃w',(Instr.mapUpdate t (.map (some b)) (.int .i64 k) (dt g)).run J3 w=.ok () w'/\cF w' b (oK (k,g) m)/\w.mapTurned w' b:=by
 obtain⟨w',hrun,ho,ht'⟩:=h.1.store jb ht (Q5 hm (by decide)) (vX hk) (Ie g);refine⟨w',hrun,⟨?_,DD h.2 hn⟩,ht'⟩;rw[It hn]at ho
 rwa[Bo]
end
def qA {m:df}{k:Int}:cz m k=none↔k∉m.map (·.1):=by
 unfold cz;rw[Option.map_eq_none_iff,List.find?_eq_none];constructor
 .intro h hm
  obtain⟨p,hp,e⟩:=Lr.1 hm;exact h p hp (by simp[e])
 .intro h p hp e
  exact h (Lr.2 ⟨p,hp,by simpa using e⟩)
def ry (m:df)(k:Int):(cz m k).isSome=decide (k∈m.map (·.1)):=by
 by_cases h:k∈m.map (·.1)
 .rw [decide_eq_true h]
  cases hl:cz m k with
  |none=>exact absurd h (qA.1 hl)
  |some g=>rfl
 .rw [decide_eq_false h,qA.2 h]
  rfl
def jI {m:df}(hr:zP m){p:Int×Nat}(hp:p∈m):cz m p.1=some p.2:=by
 induction m with
 |nil=>exact ZfO
 |cons y r ih=>
  obtain⟨h1,h2⟩:=LM.1 hr;rcases Kt.1 hp with rfl|hp
  .simp [cz]
  .have:=h1 p hp
   have hne:(y.1==p.1)=false:=by
    have:¬y.1=p.1:=zw
    simp[this]
   have:=ih h2 hp
   unfold cz at this⊢;rw[LL,hne];exact this
def yu {m:df}{k:Int}{g:Nat}(h:cz m k=some g):(k,g)∈m:=by
 unfold cz at h;obtain⟨p,hp,e⟩:=Kw.1 h;have h1:=List.mem_of_find?_eq_some hp;have h2:=List.find?_some hp;simp at h2;rw[<-h2,<-e];exact h1
end
section
def Hu (l:List aD):List Int:=(l.filter (λx=> !decide (x.Md=0))).map (·.RU)
def nQ (next:Int)(l:List aD):Prop:=(∀x∈l,¬x.Md=0->1<=x.RU/\x.RU<next)/\(Hu l).Nodup
structure OpenR (p:aE):Prop where
 id:cv p.id 1 6=true
 next:cv p.next 1 1000000000=true
 dl:p.L8.length<=6
 fx:p.aj.length<=5
 cD:p.L9.length<=5
 cC:p.ag.length<=5
 cb:p.ae.length<=5
 dH:p.ai.length<=5
 L8:aw (·.id) cH 0 p.L8=true
 aj:aw (·.id) gw 0 p.aj=true
 L9:aw (·.id) ey 0 p.L9=true
 ag:aw (·.id) cU 0 p.ag=true
 ae:aw (·.id) ct 0 p.ae=true
 ai:aw (·.id) dj 0 p.ai=true
 turns:nQ p.next p.L8
 waits:p.L8.all (dG p)=true
def bz {n lo hi:Int}:cv n lo hi=true↔lo<=n/\n<=hi:=by simp[cv]
def kx {x:aD}(h:cH x=true)(h0:x.Md=0):x.RU=0:=by
 simp only[cH,J7]at h
 have:=h.2
 simp only[bO,h0,if_true,J7,decide_eq_true_eq]at this;exact this.1.2
def tW {next:Int}{l:List aD}(hb:∀x∈l,cH x=true)(h:nQ next l):rb l:=by
 induction l with
 |nil=>exact List.Pairwise.nil
 |cons x r ih=>
  have hr:nQ next r:=⟨λy hy=>h.1 y Zdr,by
   have:=h.2
   unfold Hu at this⊢;rw[LN]at this
   split at this
   .exact (Lp.1 this).2
   .exact this⟩
  refine LM.2 ⟨λb wU hab=>?_,ih (λy hy=>hb y Zdr) hr⟩;obtain⟨y,hy,rfl⟩:=Lr.1 wU;have e1:x.RU=y.RU:=hab.1;have e2:0<y.RU:=hab.2;have hxs:¬x.Md=0:=λe=>by
   have:=kx (hb x zy) e
   omega
  have hys:¬y.Md=0:=λe=>by
   have:=kx (hb y Zdr) e
   omega
  have:=h.2
  unfold Hu at this;rw[LN,if_pos (by simp[hxs]),Lt,Lp]at this;exact this.1 (Lr.2 ⟨y,L2.2 ⟨hy,by simp[hys]⟩,hab.1.symm⟩)
def uf {next:Int}{l:List aD}(ht:∀x∈l,fF next x=true)(h:rb l):nQ next l:=by
 have h1:∀x∈l,¬x.Md=0->1<=x.RU/\x.RU<next:=λx hx h0=>by
  have:=ht x hx
  simp only[fF,h0,decide_false,Qg]at this
  have:=bz.1 this
  omega
 refine⟨h1,?_⟩
 induction l with
 |nil=>exact List.nodup_nil
 |cons x r ih=>
  obtain⟨h2,h3⟩:=LM.1 h;have ih':=ih (λy hy=>ht y Zdr) h3 (λy hy=>h1 y Zdr);unfold Hu at ih'⊢;rw[LN]
  split
  .rename_i hx
   have hx0:¬x.Md=0:=ZdT
   rw[Lt,Lp];refine⟨λhm=>?_,ih'⟩;obtain⟨y,hy,e⟩:=Lr.1 hm;have hy':=(L2.1 hy).1
   have:=h1 x zy hx0
   exact h2 y.RU (Lr.2 ⟨y,hy',rfl⟩) ⟨e.symm,zw⟩
  .exact ih'
def i5 (p:aE):OpenR p↔aQ p:=by
 constructor
 .intro h
  refine⟨h.id,h.next,h.dl,h.fx,h.cD,h.cC,h.cb,h.dH,?_,h.aj,h.L9,h.ag,h.ae,h.ai,tW (λx hx=>(cK h.L8 x hx).2) h.turns⟩;rw[nC,nC,h.L8,h.waits,Bool.true_and,Bool.and_true,PZ];intro x hx;by_cases h0:x.Md=0
  .simp [fF,h0]
  .have:=h.turns.1 x hx h0
   simp only[fF,h0,decide_false,Qg];exact bz.2 zw
 .intro h
  have hp:=h.L8;rw[nC,nC,J7,J7]at hp;exact⟨h.id,h.next,h.dl,h.fx,h.cD,h.cC,h.cb,h.dH,hp.1.1,h.aj,h.L9,h.ag,h.ae,h.ai,uf (λx hx=>PZ.1 hp.1.2 x hx) h.apart,hp.2⟩
def vv (g len cap:Nat)(K N M:Nat->Int)(S:Nat->ByteArray)(w:w_)(hl:len<=1048576)(hs:∀i,i<len->(S i).size<=1048576)(hr:iG w g len K N M S):
  k_ J3 115 #[s_ (o_ ⟨g,0,n_⟩) len cap] w λe w'=>e=r_ (b_ (nq len K N M S))/\B_ w.heap.size w w':=by
 have HR:da (iG w g len K N M S):=hr;have HS:da (∀i,i<len->(S i).size<=1048576):=hs;clear hr hs
 go_enter func115,ntmps115
 go_wp2
 go_loopw[3] (λi wr=>∃k:Nat,k<=len/\i=i_ j_ k/\(∀j,j<k->j8 K N M S j=true)/\B_ w.heap.size w wr) (λi _=>len-(intOf i).toNat)
 case atStart=>exact Zfi
 case round=>
  obtain⟨k,hk,rfl,hall,kj⟩:=hrel;have HA:da (∀j,j<k->j8 K N M S j=true):=hall;have HB:da (B_ w.heap.size w wr):=kj;have HW:da (iG wr g len K N M S):=HR.I.below kj;clear hall kj;by_cases hlt:k<len
  .have c0:=HW.I.c0 hlt
   have c1:=HW.I.c1 hlt;have c2:=HW.I.c2 hlt;have c3:=HW.I.c3 hlt;have i0:(0:Int)<=(k:Int):=zw
   have i1:(k:Int)<(len:Int):=zw
   go_wp2_with fail;refine(xZ (K k) (N k) (M k) (S k) wr (HS.I k hlt)).mono ?_;rintro e w1 ⟨rfl,hb1⟩;have fQ:da (B_ w.heap.size w w1):=HB.I.trans (hb1.mono HB.I.size);exact tl
  .have e:k=len:=zw
   subst e;by_cases h1:1<=k
   .have h1':(1:Int)<=(k:Int):=zw
    by_cases h2:k<=20
    .have h2':(k:Int)<=20:=zw
     go_wp2;go_ret;exact⟨al (by rw[vM ⟨h1,h2,HA.I⟩]),HB.I⟩
    .have h2':¬(k:Int)<=20:=zw
     go_wp2;go_ret;exact⟨al (by rw[iS (λh=>h2 h.2.1)]),HB.I⟩
   .have h1':¬(1:Int)<=(k:Int):=zw
    go_wp2;go_ret;exact⟨al (by rw[iS (λh=>h1 h.1)]),HB.I⟩
def tV (g len cap:Nat)(K N M:Nat->Int)(S:Nat->ByteArray)(w:w_)(hl:len<=1048576)(hs:∀i,i<len->(S i).size<=1048576)(hr:iG w g len K N M S):
  k_ J3 221 #[s_ (o_ ⟨g,0,n_⟩) len cap] w λe w'=>e=r_ (b_ (nq len K N M S))/\B_ w.heap.size w w':=by
 have HR:da (iG w g len K N M S):=hr;have HS:da (∀i,i<len->(S i).size<=1048576):=hs;clear hr hs;by_cases h1:¬1<=len
 .have h1':(len:Int)<1:=zw
  go_enter func221,ntmps221
  go_wp2;go_ret;exact⟨al (iS (λh=>h1 h.1)).symm,Kp _ _⟩
 have h1':¬(len:Int)<1:=zw
 by_cases h2:20<len
 .have h2':(20:Int)<(len:Int):=zw
  go_enter func221,ntmps221
  go_wp2;go_ret;exact⟨al (iS (λh=>zw)).symm,Kp _ _⟩
 have h2':¬(20:Int)<(len:Int):=zw
 go_enter func221,ntmps221
 go_wp2_with fail
 go_loopw[15] (λi wr=>∃k:Nat,k<=len/\i=i_ j_ k/\(∀j,j<k->j8 K N M S j=true)/\B_ w.heap.size w wr) (λi _=>len-(intOf i).toNat)
 case atStart=>exact Zfi
 case round=>
  obtain⟨k,hk,rfl,hall,kj⟩:=hrel;have HA:da (∀j,j<k->j8 K N M S j=true):=hall;have HB:da (B_ w.heap.size w wr):=kj;have HW:da (iG wr g len K N M S):=HR.I.below kj;clear hall kj;by_cases hlt:k<len
  .have c0:=HW.I.c0 hlt
   have c1:=HW.I.c1 hlt;have c2:=HW.I.c2 hlt;have c3:=HW.I.c3 hlt;have i0:(0:Int)<=(k:Int):=zw
   have i1:(k:Int)<(len:Int):=zw
   have hgl:=HW.I.1;go_wp2_with fail;refine(yx (K k) (N k) (M k) (S k) _ (HS.I k hlt)).mono ?_;rintro e w1 ⟨rfl,hb1⟩;have fQ:da (B_ w.heap.size w w1):=(HB.I.alloc HB.I.size _).trans (hb1.mono (by have:=HB.I.size;simp;omega));exact tl
  .have e:k=len:=zw
   subst e;go_wp2;go_ret;exact⟨al (vM ⟨zw,zw,HA.I⟩).symm,HB.I⟩
def vz (l:List dN){j:Nat}(hj:j<l.length*4):(fk.flat l)[j]? =o_ (xe (Cd l) (Cg l) (Ea l) (Ce l) j):=by
 have hi:j/4<l.length:=zw
 have hx:l[j/4]? =o_ l[j/4]:=Kz hi;have hr:j%4<4:=zw
 have:=fk.jw hx (j:=j%4) hr
 have e:j/4*fk.n+j%4=j:=by show j/4*4+j%4=j;omega
 rw[e]at this;rw[this];have h4:j%4=0\/j%4=1\/j%4=2\/j%4=3:=zw
 rcases h4 with h|h|h|h<;>rw[h]<;>simp[fk,CC,xe,h,Cd,Cg,Ea,Ce,hx]
def wa {w:w_}{a:Option d_}{l:List dN}(h:Row w a (fk.flat l))(hl:0<l.length):∃g,a=o_ ⟨g,0,n_⟩/\y9 w g l:=by
 obtain⟨g,e,hc⟩:=h 0 _ (vz l (j:=0) zw);refine⟨g,e,Le hc,λj hj=>?_⟩;obtain⟨g',e',hc'⟩:=h j _ (vz l hj);rw[e]at e';cases e';exact hc'
def Jm {w:w_}{a:Option d_}{l:List dN}(h:Row w a (fk.flat l)){i:Nat}{x:dN}(hx:l[i]? =o_ x):∃g,a=o_ ⟨g,0,n_⟩/\w.cell? ⟨g,i*4,n_⟩=o_ (i_ j_ x.1)/\w.cell? ⟨g,i*4+1,n_⟩=o_ (i_ j_ x.2.1)/\w.cell? ⟨g,i*4+2,n_⟩=o_ (i_ j_ x.2.2.1)/\w.cell? ⟨g,i*4+3,n_⟩=o_ (t_ x.2.2.2):=by
 have h':fk.bU w a l:=⟨h,λ_ _ r hr=>by cases hr⟩
 obtain⟨g,e,hc⟩:=h'.at hx;exact⟨g,e,hc 0 _ rfl,hc 1 _ rfl,hc 2 _ rfl,hc 3 _ rfl⟩
def xd {l:List dN}(hs:∀o∈l,o.2.2.2.size<=1048576):∀i,i<l.length->(Ce l i).size<=1048576:=λi hi=>by
 simp only[Ce,Kz hi,Option.getD_some];exact hs _ (PJ hi)
structure ao.dX (x:ao):Prop where
 prog:x.prog.length<=1048576
 ops:∀o∈x.prog,o.2.2.2.size<=1048576
 held:x.held.size<=1048576
 got:x.got.size<=1048576
def xf:jm []=false:=iS (λh=>by have:=h.1;simp at this)
def tz (a:Option d_)(cap:Nat)(w:w_):
  k_ J3 115 #[s_ a 0 cap] w λe w'=>e=r_ (b_ false)/\B_ w.heap.size w w':=by
 go_enter func115,ntmps115
 go_wp2
 go_loop [3] (λi=>i=i_ j_ 0) (λ_=>0)
 case atStart=>rfl
 case round=>
  subst hrel;go_wp2;go_ret;exact⟨rfl,Kp _ _⟩
def wQ (a:Option d_)(l:List dN)(cap:Nat)(w:w_)(hl:l.length<=1048576)(hs:∀o∈l,o.2.2.2.size<=1048576)(h:Row w a (fk.flat l)):
  k_ J3 115 #[s_ a l.length cap] w λe w'=>e=r_ (b_ (jm l))/\B_ w.heap.size w w':=by
 cases l with
 |nil=>rw[xf];exact tz a cap w
 |cons x r=>
  obtain⟨g,rfl,hr⟩:=wa h zy;exact vv g _ cap _ _ _ _ w hl (xd hs) hr
def tu (a:Option d_)(cap:Nat)(w:w_):
  k_ J3 221 #[s_ a 0 cap] w λe w'=>e=r_ (b_ false)/\B_ w.heap.size w w':=by
 go_enter func221,ntmps221
 go_wp2;go_ret;exact⟨rfl,Kp _ _⟩
def wI (a:Option d_)(l:List dN)(cap:Nat)(w:w_)(hl:l.length<=1048576)(hs:∀o∈l,o.2.2.2.size<=1048576)(h:Row w a (fk.flat l)):
  k_ J3 221 #[s_ a l.length cap] w λe w'=>e=r_ (b_ (jm l))/\B_ w.heap.size w w':=by
 cases l with
 |nil=>rw[xf];exact tu a cap w
 |cons x r=>
  obtain⟨g,rfl,hr⟩:=wa h zy;exact tV g _ cap _ _ _ _ w hl (xd hs) hr

end
section
open Go
def bL {P:Program}{fn:Func}{p u:Tmp}{ty:TypeId}(h:fn.results=#[.cell p ty,.tmp u])(tmps:Array Value)(w:World)(g:Nat)(t:TypeId)(cs:Array Value)(fr:Nat×Nat)(d:TypeDesc)
  (hp:tmps.getD p undef=.pointer (some ⟨g,0,none⟩))(hg:w.heap[g]? =some (.cells cs t fr))
  (hu:P.underlying ty=some d)(hd:(match d with|.struct _|.array _ _=>true|_=>false)=true)(hi:(P.info? ty).map (·.size)=some cs.size):
  (results fn tmps).run P w=.ok (.tuple #[.agg cs,tmps.getD u undef]) w:=by
 rw[results_cell_tmp h,hp];simp[asAddr,run_loadVar_row w g t ty cs fr d hg hu hd hi]
end
section
def BX (major fr a l p:Int):Bool:=decide (fr<=a/\a<=major/\1<=l/\l<=major-a/\1<=p/\p<=6)
def Tx {major fr a l p:Int}(h:fr<=a/\a<=major/\1<=l/\l<=major-a/\1<=p/\p<=6):BX major fr a l p=true:=by simp only[BX];exact decide_eq_true h
def hG {major fr a l p:Int}(h:¬(fr<=a/\a<=major/\1<=l/\l<=major-a/\1<=p/\p<=6)):BX major fr a l p=false:=by simp only[BX];exact decide_eq_false h
def TO {major fr a l p:Int}(h:BX major fr a l p=true):fr<=a/\a<=major/\1<=l/\l<=major-a/\1<=p/\p<=6:=by simpa[BX]using h
def C2 (a l p fr major:Int)(w:w_)(h0:0<=fr)(h1:1<=major)(h2:major<=1000):
  k_ J3 62 #[a_ #[i_ j_ a,i_ j_ l,i_ j_ p],i_ j_ fr,i_ j_ major] w λe w'=>e=r_ (b_ (BX major fr a l p))/\B_ w.heap.size w w':=by
 by_cases k1:a<fr
 .exact J_
 by_cases k2:major<a
 .exact J_
 by_cases k3:l<1
 .exact J_
 by_cases k4:major-a<l
 .exact J_
 by_cases k5:p<1
 .exact J_
 by_cases k6:6<p
 .go_enter func62,ntmps62
  go_wp2;go_ret;exact⟨al (by rw[hG zw];exact decide_eq_false zw),Zck⟩
 go_enter func62,ntmps62
 go_wp2;go_ret;exact⟨al (Tx zw).symm,Zck⟩
def o7 (Z:Nat->Int):Nat->Int
 |0=>0
 |i+1=>Z (i*3)+Z (i*3+1)
def pn (major:Int)(Z:Nat->Int)(i:Nat):Bool:=BX major (o7 Z i) (Z (i*3)) (Z (i*3+1)) (Z (i*3+2))
def nn (major:Int)(len:Nat)(Z:Nat->Int):Bool:=decide (1<=major/\major<=1000/\len<=20/\∀i,i<len->pn major Z i=true)
def PE {major:Int}{len:Nat}{Z:Nat->Int}(h:1<=major/\major<=1000/\len<=20/\∀i,i<len->pn major Z i=true):nn major len Z=true:=by simp only[nn];exact decide_eq_true h
def mm {major:Int}{len:Nat}{Z:Nat->Int}(h:¬(1<=major/\major<=1000/\len<=20/\∀i,i<len->pn major Z i=true)):nn major len Z=false:=by simp only[nn];exact decide_eq_false h
def apc {major:Int}{len:Nat}{Z:Nat->Int}(h:nn major len Z=true):1<=major/\major<=1000/\len<=20/\∀i,i<len->pn major Z i=true:=by
 simp only[nn]at h;exact of_decide_eq_true h
def A4 {major:Int}{Z:Nat->Int}(k:Nat)(h:∀i,i<k->pn major Z i=true):0<=o7 Z k/\(1<=major->o7 Z k<=major):=by
 induction k with
 |zero=>simp[o7];omega
 |succ k ih=>
  have ih:=ih (λi hi=>h i zw);have hk:=TO (h k zw);simp only[o7];omega
def Tc (major:Int)(g len cap:Nat)(Z:Nat->Int)(w:w_)(hl:len<=1048576)(hz:∀j,-9223372036854775808<=Z j/\Z j<=9223372036854775807)(hr:lT w g len Z):
  k_ J3 42 #[a_ #[i_ j_ major,s_ (o_ ⟨g,0,n_⟩) len cap]] w λe w'=>e=r_ (b_ (nn major len Z))/\B_ w.heap.size w w':=by
 by_cases k1:¬(1<=major/\major<=1000)
 .have hin:cv major 1 1000=false:=by simp[cv];omega
  exact Zak
 have k1:1<=major/\major<=1000:=zw
 have hin:cv major 1 1000=true:=eB k1.1 k1.2;by_cases k2:20<len
 .exact Zak
 obtain⟨k1,k1'⟩:=k1;have hgl:=hr.lt
 go_enter func42,ntmps42
 go_wp2_with(go_at_call 41;refine(dx _ _ _ _).mono ?_;rintro e w' ⟨rfl,rfl⟩)
 go_loopw[3,4] (λt i wr=>∃k:Nat,k<=len/\i=i_ j_ k/\t=i_ j_ (o7 Z k)/\(∀i,i<k->pn major Z i=true)/\B_ (w.heap.size+1) (w.alloc (c_ #[i_ j_ major,s_ (o_ ⟨g,0,n_⟩) len cap] 26)) wr) (λ_ i _=>len-(intOf i).toNat)
 case atStart=>exact⟨0,Ky _,rfl,rfl,λi hi=>zw,Kp _ _⟩
 case round=>
  obtain⟨k,hk,rfl,rfl,hall,kj⟩:=hrel;have HA:da (∀i,i<k->pn major Z i=true):=hall;have he:=A4 k hall;clear hall;obtain⟨he0,he1⟩:=he;have he1:=he1 k1;have hs:w.heap.size<wr.heap.size:=Zfd
  have m0:wr.cell? ⟨w.heap.size,0,n_⟩=o_ (i_ j_ major):=(kj.cell (p:=⟨w.heap.size,0,n_⟩) zy).trans zy;have m1:wr.cell? ⟨w.heap.size,1,n_⟩=o_ (s_ (o_ ⟨g,0,n_⟩) len cap):=(kj.cell (p:=⟨w.heap.size,1,n_⟩) zy).trans zy;by_cases hlt:k<len
  .have Vo:lT wr g len Z:=(hr.alloc _).of_block (kj.block g zw)
   have c0:wr.cell? ⟨g,k*3,n_⟩=o_ (i_ j_ (Z (k*3))):=Vo.cell zw;have c1:wr.cell? ⟨g,k*3+1,n_⟩=o_ (i_ j_ (Z (k*3+1))):=Vo.cell zw;have c2:wr.cell? ⟨g,k*3+2,n_⟩=o_ (i_ j_ (Z (k*3+2))):=Vo.cell zw;have HR:da (lT wr g len Z):=Vo;clear Vo hr;have q0:=hz (k*3);have q0':=hz (k*3+1);generalize ha:Z (k*3)=a at*;generalize hl':Z (k*3+1)=l at*;generalize hp:Z (k*3+2)=p at*;have hend:o7 Z (k+1)=a+l:=by simp[o7,ha,hl']
   have HE:=(show da (o7 Z (k+1)=a+l)from hend)
   have TX:pn major Z k=BX major (o7 Z k) a l p:=by simp[pn,ha,hl',hp]
   have HW:=(show da (pn major Z k=BX major (o7 Z k) a l p)from TX)
   clear hend TX ha hl' hp;generalize hen:o7 Z k=en at*;clear hen hz;have hno:BX major en a l p=false->nn major len Z=false:=λh=>mm (λhh=>by have:=hh.2.2.2 k hlt;rw[HW.I,h]at this;cases this)
   have HN:da (BX major en a l p=false->nn major len Z=false):=hno;clear hno;have hB:B_ w.heap.size w wr:=((Kp _ _).alloc (Ki _) _).trans (kj.mono zw);by_cases q1:¬(en<=a/\a<=major)
   .have i1:cv a en major=false:=by simp[cv];omega
    exact M_
   have q1:en<=a/\a<=major:=zw
   have i1:cv a en major=true:=eB q1.1 q1.2;by_cases q2:¬(1<=l/\l<=major)
   .have i2:cv l 1 major=false:=by simp[cv];omega
    exact M_
   have q2:1<=l/\l<=major:=zw
   have i2:cv l 1 major=true:=eB q2.1 q2.2;by_cases q3:major<a+l
   .go_wp2_with (go_at_call 41;refine(dx _ _ _ _).mono ?_;rintro e w' ⟨rfl,rfl⟩)
    go_ret;exact⟨al (HN.I (hG zw)).symm,hB.alloc zw _⟩
   by_cases q4:¬(1<=p/\p<=6)
   .have i4:cv p 1 6=false:=by simp[cv];omega
    exact M_
   have q4:1<=p/\p<=6:=zw
   have i4:cv p 1 6=true:=eB q4.1 q4.2;go_wp2_with(go_at_call 41;refine(dx _ _ _ _).mono ?_;rintro e w' ⟨rfl,rfl⟩);go_roundw
   case rel=>
    refine⟨k+1,zw,by go_num,by rw[HE.I],?_,kj.alloc zw _⟩;intro i hi;by_cases e:i=k
    .subst e;rw[HW.I];exact Tx zw
    .exact HA.I i zw
   case measure=>exact Zcc
  .go_wp2
   go_ret;have e:k=len:=zw
   subst e;exact⟨al (PE ⟨k1,k1',zw,HA.I⟩).symm,((Kp _ _).alloc (Ki _) _).trans (kj.mono zw)⟩
structure pA where
 at_:Int
 len:Int
 part:Int
def VE (x:pA):List v_:=[i_ j_ x.at_,i_ j_ x.len,i_ j_ x.part]
def jq:Kind pA:=⟨3,VE,λ_=>[],by decide,λ_=>rfl⟩
structure eQ where
 src:Int
 ga:Int
 dst:Int
 hI:Int
def eQ.Wf (c:eQ):Prop:=(Lit.int j_ c.src).wf=true/\(Lit.int j_ c.ga).wf=true/\(Lit.int j_ c.dst).wf=true/\(Lit.int j_ c.hI).wf=true
abbrev nx (c:eQ):Array v_:=#[i_ j_ c.src,i_ j_ c.ga,i_ j_ c.dst,i_ j_ c.hI]
def Vg (x:eQ):List v_:=[i_ j_ x.src,i_ j_ x.ga,i_ j_ x.dst,i_ j_ x.hI]
def hM:Kind eQ:=⟨4,Vg,λ_=>[],by decide,λ_=>rfl⟩
def eQ.At (w:w_)(g i:Nat)(x:eQ):Prop:=w.cell? ⟨g,i*4,n_⟩=o_ (i_ j_ x.src)/\w.cell? ⟨g,i*4+1,n_⟩=o_ (i_ j_ x.ga)/\w.cell? ⟨g,i*4+2,n_⟩=o_ (i_ j_ x.dst)/\w.cell? ⟨g,i*4+3,n_⟩=o_ (i_ j_ x.hI)
def TH {w:w_}{a:Option d_}{l:List eQ}(h:hM.bU w a l){i:Nat}{x:eQ}(hx:l[i]? =o_ x):∃g,a=o_ ⟨g,0,n_⟩/\eQ.At w g i x:=by
 obtain⟨g,e,hc⟩:=h.at hx;exact⟨g,e,hc 0 _ rfl,hc 1 _ rfl,hc 2 _ rfl,hc 3 _ rfl⟩
def UU (p:af):List v_:=p.cells.toList
def il (p:af):List (Option d_×List v_):=[(p.aN,bg.flat p.L8),(p.bc,dm.flat p.aj),(p.ay,bJ.flat p.L9),(p.ax,bG.flat p.ag),(p.am,bm.flat p.ae),(p.aK,bX.flat p.ai)]++p.L8.flatMap bg.kids++p.ae.flatMap bm.kids++p.ai.flatMap bX.kids
def kp:Kind af:=⟨8,UU,il,by decide,λ_=>rfl⟩
def U2 {w:w_}{p:af}(h:∀r∈il p,Row w r.1 r.2):af.At w p:=by
 have h1:∀r∈[(p.aN,bg.flat p.L8),(p.bc,dm.flat p.aj),(p.ay,bJ.flat p.L9),(p.ax,bG.flat p.ag),(p.am,bm.flat p.ae),(p.aK,bX.flat p.ai)],Row w r.1 r.2:=λr hr=>h r (by simp only[il,Kg];exact .inl (.inl (.inl hr)))
 refine⟨⟨h1 (p.aN,bg.flat p.L8) zy,λx hx r hr=>h r ?_⟩,⟨h1 (p.bc,dm.flat p.aj) zy,λx _ r hr=>by simp[dm]at hr⟩,⟨h1 (p.ay,bJ.flat p.L9) zy,λx _ r hr=>by simp[bJ]at hr⟩,⟨h1 (p.ax,bG.flat p.ag) zy,λx _ r hr=>by simp[bG]at hr⟩,⟨h1 (p.am,bm.flat p.ae) zy,λx hx r hr=>h r ?_⟩,⟨h1 (p.aK,bX.flat p.ai) zy,λx hx r hr=>h r ?_⟩⟩
 all_goals simp only[il,Kg,Rt]
 .exact .inl (.inl (.inr ⟨x,hx,hr⟩))
 .exact .inl (.inr ⟨x,hx,hr⟩)
 .exact .inr ⟨x,hx,hr⟩
def af.In (w:w_)(g i:Nat)(p:af):Prop:=w.cell? ⟨g,i*8,n_⟩=o_ (i_ j_ p.id)/\w.cell? ⟨g,i*8+1,n_⟩=o_ (i_ j_ p.next)/\w.cell? ⟨g,i*8+2,n_⟩=o_ (s_ p.aN p.L8.length p.aW)/\w.cell? ⟨g,i*8+3,n_⟩=o_ (s_ p.bc p.aj.length p.bF)/\w.cell? ⟨g,i*8+4,n_⟩=o_ (s_ p.ay p.L9.length p.aO)/\w.cell? ⟨g,i*8+5,n_⟩=o_ (s_ p.ax p.ag.length p.aP)/\w.cell? ⟨g,i*8+6,n_⟩=o_ (s_ p.am p.ae.length p.aG)/\w.cell? ⟨g,i*8+7,n_⟩=o_ (s_ p.aK p.ai.length p.aV)
def ic {w:w_}{a:Option d_}{l:List af}(h:kp.bU w a l){i:Nat}{p:af}(hp:l[i]? =o_ p):∃g,a=o_ ⟨g,0,n_⟩/\af.In w g i p/\af.At w p:=by
 obtain⟨g,e,hc⟩:=h.at hp;exact⟨g,e,⟨hc 0 _ rfl,hc 1 _ rfl,hc 2 _ rfl,hc 3 _ rfl,hc 4 _ rfl,hc 5 _ rfl,hc 6 _ rfl,hc 7 _ rfl⟩,U2 (h.2 p (KA hp))⟩
structure eA where
 bE:Int
 major:Int
 fn:List pA
 vb:Option d_
 Te:Nat
 parts:List af
 qn:Option d_
 sa:Nat
 eC:List eQ
 qi:Option d_
 tC:Nat
abbrev eA.row (k:eA):Array v_:=#[i_ j_ k.bE,i_ j_ k.major,s_ k.vb k.fn.length k.Te,s_ k.qn k.parts.length k.sa,s_ k.qi k.eC.length k.tC]
structure eA.At (w:w_)(k:eA):Prop where
 fn:jq.bU w k.vb k.fn
 parts:kp.bU w k.qn k.parts
 eC:hM.bU w k.qi k.eC
def eA.At.below {w w':w_}{k:eA}(h:eA.At w k)(hb:B_ w.heap.size w w'):eA.At w' k:=⟨h.fn.below hb,h.parts.below hb,h.eC.below hb⟩
structure kd where
 bE:Int
 major:Int
 fn:List pA
 parts:List aE
 eC:List eQ
def eA.pure (k:eA):kd:=⟨k.bE,k.major,k.fn,k.parts.map (·.pure),k.eC⟩

end
end Go.Proofs.YtckenjkcmajicaaGreat
