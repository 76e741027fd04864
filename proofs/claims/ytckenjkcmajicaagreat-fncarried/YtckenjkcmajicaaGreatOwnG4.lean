/- What the proof leans on, part 4. -/
import Derived.Test.YtckenjkcmajicaaGreatOwnG0
import Derived.Test.YtckenjkcmajicaaGreatOwnG1
import Derived.Test.YtckenjkcmajicaaGreatOwnG2
import Derived.Test.YtckenjkcmajicaaGreatOwnG3
import Derived.Deep.AppendLies
import Derived.Deep.AppendSrc
set_option linter.all false
set_option maxRecDepth 100000
set_option maxHeartbeats 8000000
open Go.Proofs.Tryz
open Go renaming World->w_,Value->v_,Calls->k_,Addr->d_,TypeId->T_
open Go.Ending renaming returned->r_
open Go.IntKind renaming i64->j_
open Go.Obj renaming cells->c_
open Go.RowKit renaming Below->B_,Hid->da
open Go.Value renaming int->i_,slice->s_,bool->b_,string->t_,agg->a_,pointer->p_,tuple->u_
open Option renaming some->o_,none->n_
open Function renaming comp_def->Ls
open Go renaming wp_at_succ->Kd,wp_at_zero->Kc
open Go.Proofs.Tryz renaming prog->J3
open Option renaming getD_some->Ka,map_some->J9

open Go.RowKit
namespace Go.Proofs.YtckenjkcmajicaaGreat
open Go.Maps
structure fT (w:w_)(a:Option d_)(l:List ByteArray):Prop where
 len:l.length<=1048576
 short:∀s∈l,s.size<=1048576
 row:Row w a (bT.flat l)
def fT.below {w w':w_}{a:Option d_}{l:List ByteArray}(h:fT w a l)(hb:B_ w.heap.size w w'):fT w' a l:=⟨h.len,h.short,h.row.below hb⟩
def oy (a:Option d_)(l:List ByteArray)(cap:Nat)(Me:Int)(w:w_)(h:fT w a l):
  k_ J3 209 #[s_ a l.length cap,i_ j_ Me] w λe w'=>e=r_ (b_ (cv Me 1 5&&dJ l Me))/\w'=w:=by
 have H:da (fT w a l):=h;have hl:=h.len;clear h;by_cases h1:Me<1
 .go_enter func209,ntmps209
  go_wp2;go_ret;exact⟨al (by rw[mA h1];rfl),rfl⟩
 by_cases h2:5<Me
 .go_enter func209,ntmps209
  go_wp2;go_ret;exact⟨al (by rw[kR h2];rfl),rfl⟩
 have HIn:da (cv Me 1 5=true):=eB zw zw;by_cases h3:Me<(l.length:Int)
 .have HT:da (dJ l Me=false):=by show dJ l Me=false;simp[dJ];intro _;omega
  have e1:wrap64 (l.length:Int)=l.length:=Zc8
  go_enter func209,ntmps209
  go_wp2;go_ret;exact⟨al (by rw[HT.I,PP]),rfl⟩
 have HL:da (decide ((l.length:Int)<=Me)=true):=decide_eq_true zw;have e1:wrap64 (l.length:Int)=l.length:=Zc8
 go_enter func209,ntmps209
 go_wp2_with fail
 go_loop [21] (λi=>∃k:Nat,k<=l.length/\i=i_ j_ k/\da ((l.take k).all bw=true)) (λi=>l.length-(intOf i).toNat)
 case atStart=>exact ZfD
 case round=>
  obtain⟨k,hk,rfl,HA⟩:=hrel;by_cases hlt:k<l.length
  .have i0:(0:Int)<=(k:Int):=zw
   have i1:(k:Int)<(l.length:Int):=zw
   obtain⟨x,hx⟩:∃x,l[k]? =o_ x:=⟨_,Kz hlt⟩
   have HX:da (l[k]? =o_ x):=hx;obtain⟨g,rfl,c0⟩:=zl H.I.row hx;have hxs:=H.I.short x (KA hx);clear hx;go_wp2_with fail;refine(iM x w hxs).mono ?_;rintro e w' ⟨rfl,rfl⟩;cases hp:bw x with
   |true=>
    exact Zau
   |false=>
    have HP:da (bw x=false):=hp;clear hp;go_wp2;go_ret;exact⟨al (by rw[xL HX.I HP.I,PP]),rfl⟩
  .have i1:¬(k:Int)<(l.length:Int):=zw
   have HT:da (l.all bw=true):=Zfw
   go_wp2;go_ret;exact⟨al (by rw[HIn.I,dJ,HT.I,HL.I];rfl),rfl⟩
def zS {id:Int}{I Mf:Bool}{max:Int}{Ma:List ByteArray}(h:(cv max 1 5&&dJ Ma max)=false):dj ⟨id,I,Mf,max,Ma⟩=false:=by
 simp only[dj];cases h1:cv max 1 5<;>cases h2:dJ Ma max<;>simp_all
def Cu {id:Int}{I:Bool}{max:Int}{Ma:List ByteArray}(h:(cv max 1 5&&dJ Ma max)=true)(q:Bool):dj ⟨id,I,q,max,Ma⟩=(q||decide (max=1)):=by
 simp only[J7]at h;simp[dj,h.1,h.2]
def iI (Me:Int)(m:df)(id:Int)(ok:Bool):Bool:= !(cz m id).isSome&&decide ((m.length:Int)<Me)&&cv id 1 1000&&ok
def dD (w:w_)(b:Nat)(m:df)(ok:Bool)(id:Int)(cs:Array v_)(T:T_)(e:Ending)(w':w_):Prop:=
 e=r_ (b_ ok)/\(ok=false->B_ w.heap.size w w')/\(ok=true->∃g,w.heap.size<=g/\w'.heap[g]? =o_ (c_ cs T)/\cF w' b (oK (id,g) m)/\w.grownBy w' (o_ b))
def ki {w w':w_}{b:Nat}{m:df}{ok:Bool}{id:Int}{cs:Array v_}{T:T_}(h:ok=false)(hb:B_ w.heap.size w w'):dD w b m ok id cs T (r_ (b_ false)) w':=by
 subst h;exact⟨rfl,λ_=>hb,λh=>ZcF⟩
structure fe (w W:w_)(S X b:Nat)(m:df)(Me:Int)(cs:Array v_)(T TS:T_):Prop where
 sh:W.heap[S]? =o_ (c_ #[i_ j_ Me,.map (o_ b)] TS)
 bx:W.heap[X]? =o_ (c_ cs T)
 mp:cF W b m
 cd:B_ w.heap.size w W
section
variable {w W W':w_}{S X b:Nat}{m:df}{Me:Int}{cs:Array v_}{T TS:T_}
def fe.below (h:fe w W S X b m Me cs T TS)(hb:B_ W.heap.size W W'):fe w W' S X b m Me cs T TS:=
 ⟨(hb.block _ (J2.1 h.sh).1).trans h.sh,(hb.block _ (J2.1 h.bx).1).trans h.bx,h.mp.below hb,h.cd.trans (hb.mono h.cd.size)⟩
def fe.start (w:w_){b:Nat}{m:df}(h:cF w b m)(Me:Int)(cs:Array v_)(T TS:T_):fe w ((w.alloc (c_ #[i_ j_ Me,.map (o_ b)] TS)).alloc (c_ cs T)) w.heap.size (w.heap.size+1) b m Me cs T TS:=by
 have b1:B_ w.heap.size w (w.alloc (c_ #[i_ j_ Me,.map (o_ b)] TS)):=(Kp _ _).alloc (Ki _) _;have b2:B_ w.heap.size w ((w.alloc (c_ #[i_ j_ Me,.map (o_ b)] TS)).alloc (c_ cs T)):=b1.alloc b1.size _;exact⟨(PU zy).trans (Kj _ _),Kq _ _ _,h.below b2,b2⟩
def fe.drew (h:fe w W S X b m Me cs T TS):fe w W.drew S X b m Me cs T TS:=⟨h.sh,h.bx,h.mp.same rfl,h.cd.drew⟩
def fe.cells (h:fe w W S X b m Me cs T TS):W.cell? ⟨S,0,n_⟩=o_ (i_ j_ Me)/\W.cell? ⟨S,1,n_⟩=o_ (.map (o_ b)):=by
 have:=h.sh
 simp[World.cell?,this]
def fe.put (h:fe w W S X b m Me cs T TS)(hX:w.heap.size<=X){t e:T_}(ht:Tryz.prog.underlying t=o_ (.map 2 e)){id:Int}(hid:(Lit.int j_ id).wf=true)(hn:cz m id=n_)(hm:m.length<=1048576)(hXb:¬X=b):
  ∃w',(Instr.mapUpdate t (.map (o_ b)) (i_ j_ id) (p_ (o_ ⟨X,0,n_⟩))).run J3 W=.ok () w'/\dD w b m true id cs T (r_ (b_ true)) w':=by
 obtain⟨w',hrun,hmp,htn⟩:=h.mp.put ht hid X hn hm;refine⟨w',hrun,⟨rfl,(λh=>ZcF),λ_=>⟨X,hX,?_,hmp,?_⟩⟩⟩
 .have:=htn.grown
  exact(this.block X (J2.1 h.bx).1 (λe=>hXb (KC e))).trans h.bx
 .have hg:=htn.grown
  exact⟨hg.os.trans h.cd.os,hg.tape.trans h.cd.tape,hg.output.trans h.cd.output,LG h.cd.size hg.size,λk hk hne=>(hg.block k (Kn hk h.cd.size) hne).trans (h.cd.block k hk)⟩
end
end Go.Proofs.YtckenjkcmajicaaGreat

namespace Go.Proofs.YtckenjkcmajicaaGreat
attribute [local go_sem ↓] Kc Kd
def aX (x:ao):Array v_:=#[i_ j_ x.id,i_ j_ x.RX,s_ x.aY x.prog.length x.bH,i_ j_ x.Md,i_ j_ x.pc,i_ j_ x.left,i_ j_ x.Mg,i_ j_ x.on,t_ x.held,t_ x.got,i_ j_ x.code,i_ j_ x.RU]
def eL (w:w_)(x:ao):Prop:=x.dX/\Row w x.aY (fk.flat x.prog)
def eL.below {w w':w_}{x:ao}(h:eL w x)(hb:B_ w.heap.size w w'):eL w' x:=⟨h.1,h.2.below hb⟩
def bo {W:w_}{X:Nat}{x:ao}(h:W.heap[X]? =o_ (c_ (aX x) 125)):W.cell? ⟨X,0,n_⟩=o_ (i_ j_ x.id)/\W.cell? ⟨X,1,n_⟩=o_ (i_ j_ x.RX)/\W.cell? ⟨X,2,n_⟩=o_ (s_ x.aY x.prog.length x.bH)/\W.cell? ⟨X,3,n_⟩=o_ (i_ j_ x.Md)/\W.cell? ⟨X,4,n_⟩=o_ (i_ j_ x.pc)/\W.cell? ⟨X,5,n_⟩=o_ (i_ j_ x.left)/\W.cell? ⟨X,6,n_⟩=o_ (i_ j_ x.Mg)/\W.cell? ⟨X,7,n_⟩=o_ (i_ j_ x.on)/\W.cell? ⟨X,8,n_⟩=o_ (t_ x.held)/\W.cell? ⟨X,9,n_⟩=o_ (t_ x.got)/\W.cell? ⟨X,10,n_⟩=o_ (i_ j_ x.code)/\W.cell? ⟨X,11,n_⟩=o_ (i_ j_ x.RU):=by
 unfold aX at h;simp[World.cell?,h]
def iK (x:ao)(w:w_):k_ J3 219 #[a_ (aX x)] w λe w'=>e=r_ (i_ j_ x.id)/\B_ w.heap.size w w':=by
 unfold aX
 go_enter func219,ntmps219
 exact ro
def ob (v:v_)(w:w_):Sem.run J3 (method 405 125 v "loop.example/g00313/impl.number") w=.ok (219,v) w:=by kernel_rfl
def uB (v:v_)(w:w_):Sem.run J3 (method 405 125 v "loop.example/g00313/impl.right") w=.ok (220,v) w:=by kernel_rfl
def oD (w:w_):(zeroValue 161).run J3 w=.ok (p_ n_) w:=ZbG
def BP (Me:Int)(b:Nat)(m:df)(id:Int)(w:w_)(h:cF w b m)(hw:(Lit.int j_ id).wf=true):
  k_ J3 173 #[a_ #[i_ j_ Me,.map (o_ b)],i_ j_ id] w λe w'=>e=r_ (b_ (cz m id).isSome)/\B_ w.heap.size w w':=by
 have hlk:=(h.below ((Kp _ w).alloc (Ki _) (c_ #[i_ j_ Me,.map (o_ b)] 104))).look underlying102 (oD _) hw true;simp only[if_true]at hlk;clear h hw
 go_enter func173,ntmps173
 exact ro
def kb (t:Int)(w:w_):k_ J3 225 #[i_ j_ t] w λe w'=>e=r_ (b_ (cv t 1 2000000000))/\w'=w:=by
 by_cases h1:1<=t
 .by_cases h2:t<=2000000000
  .go_enter func225,ntmps225
   exact ZaH
  .go_enter func225,ntmps225
   exact Zax
 .go_enter func225,ntmps225
  exact Zay
def kn (x:ao)(w:w_)(hl:x.prog.length<=1048576):k_ J3 218 #[a_ (aX x)] w λe w'=>e=r_ (b_ (dU x.toaD))/\B_ w.heap.size w w':=by
 unfold aX;have e1:wrap64 (x.prog.length:Int)=x.prog.length:=Zc8
 by_cases h1:0<=x.pc
 .by_cases h2:x.pc<(x.prog.length:Int)
  .have HV:da (dU x.toaD=true):=eB h1 zw
   go_enter func218,ntmps218
   exact Zai
  .have HV:da (dU x.toaD=false):=kR zw
   go_enter func218,ntmps218
   exact Zai
 .have HV:da (dU x.toaD=false):=mA zw
  go_enter func218,ntmps218
  exact Zai
def xm {x:aD}(h:dU x=true):∃k:Nat,x.pc=k/\k<x.prog.length/\x.prog[k]? =o_ (opAt x):=by
 have:=bz.1 h
 refine⟨x.pc.toNat,zw,zw,?_⟩;unfold opAt;rw[Kz zw];rfl
def CP (x:ao)(w:w_)(hf:eL w x)(h:dU x.toaD=true):k_ J3 224 #[a_ (aX x)] w λe w'=>e=r_ (b_ (jJ x.toaD))/\B_ w.heap.size w w':=by
 obtain⟨k,hk,hkl,hop⟩:=xm h;have b1:B_ w.heap.size w (w.alloc (c_ (aX x) 125)):=(Kp _ _).alloc (Ki _) _;obtain⟨g,hg,c0,c1,c2,c3⟩:=Jm (hf.2.below b1) hop;have HL:da (jJ x.toaD=if(opAt x.toaD).1=1 then decide (0<=x.left)&&decide (x.left<(opAt x.toaD).2.1)else decide (x.left=0)):=rfl;have i0:(0:Int)<=(k:Int):=zw
 have i1:(k:Int)<(x.prog.length:Int):=zw
 clear h hop hf;generalize opAt x.toaD=o at*;obtain⟨⟨id,RX,prog,Md,pc,left,Mg,on,held,got,code,RU⟩,aY,bH⟩:=x;simp only at hk hg i1 HL;subst hk hg;unfold aX at*;simp only at*;by_cases h1:o.1=1
 .have Jt:da (jJ ⟨id,RX,prog,Md,k,left,Mg,on,held,got,code,RU⟩=(decide (0<=left)&&decide (left<o.2.1))):=HL.I.trans (if_pos h1)
  have h1':(o.1==1)=true:=Zea
  clear h1 HL;by_cases h2:0<=left
  .by_cases h3:left<o.2.1
   all_goals
    go_enter func224,ntmps224
    go_wp2;go_ret;exact⟨al (by rw[Jt.I];simp[h2,h3]),Zck⟩
  .go_enter func224,ntmps224
   go_wp2;go_ret;exact⟨al (by rw[Jt.I,decide_eq_false zw];rfl),Zck⟩
 .have Jt:da (jJ ⟨id,RX,prog,Md,k,left,Mg,on,held,got,code,RU⟩=decide (left=0)):=HL.I.trans (if_neg h1)
  have h1':(o.1==1)=false:=Zea
  clear h1 HL
  go_enter func224,ntmps224
  go_wp2;go_ret;exact⟨al (by rw[Jt.I];by_cases h:left=0<;>simp[h]),Zck⟩
end Go.Proofs.YtckenjkcmajicaaGreat

namespace Go.Proofs.YtckenjkcmajicaaGreat
structure oV (w W:w_)(x:ao):Prop where
 box:W.heap[w.heap.size]? =o_ (c_ (aX x) 125)
 fit:eL W x
 cd:B_ w.heap.size w W
def oV.below {w W W':w_}{x:ao}(h:oV w W x)(hb:B_ W.heap.size W W'):oV w W' x:=
 ⟨(hb.block _ (J2.1 h.box).1).trans h.box,h.fit.below hb,h.cd.trans (hb.mono h.cd.size)⟩
def oV.start {w:w_}{x:ao}(h:eL w x):oV w (w.alloc (c_ (aX x) 125)) x:=by
 have b1:B_ w.heap.size w (w.alloc (c_ (aX x) 125)):=(Kp _ _).alloc (Ki _) _;exact⟨Kj _ _,h.below b1,b1⟩
def p9 {s:ByteArray}(h:s.toList=[]):bI s=true:=by simp[bI,h]
def sf {s:ByteArray}(h:¬s.toList=[]):bI s=false:=by simp[bI,h]
def aA {p:Prop}(h:p):da p:=h
def mu (a b:Int):(a==b)=decide (a=b):=by rw[Bool.eq_iff_iff];simp
def Jh (a b c d:Bool):a=false\/(a=true/\b=false)\/(a=true/\b=true/\c=false)\/(a=true/\b=true/\c=true/\d=false)\/(a=true/\b=true/\c=true/\d=true):=by
 revert a b c d
 decide
def ways5 (a b c d e:Bool):a=false\/(a=true/\b=false)\/(a=true/\b=true/\c=false)\/(a=true/\b=true/\c=true/\d=false)\/(a=true/\b=true/\c=true/\d=true/\e=false)\/(a=true/\b=true/\c=true/\d=true/\e=true):=by
 revert a b c d e
 decide
def qL (a b c d:Bool):a=false\/(a=true/\b=false)\/(a=true/\b=true/\c=true)\/(a=true/\b=true/\c=false/\d=false)\/(a=true/\b=true/\c=false/\d=true):=by
 revert a b c d
 decide
def state0 {x:aD}(h:x.Md=0):bO x=((x.pc==0)&&(x.left==0)&&(x.Mg==0)&&(x.on==0)&&(x.RU==0)&&bI x.held):=by simp[bO,h,mu]
def Da (x:ao)(w:w_)(hf:eL w x)(hs:x.Md=0):k_ J3 222 #[a_ (aX x)] w λe w'=>e=r_ (b_ (bO x.toaD))/\B_ w.heap.size w w':=by
 have HE:=aA (state0 hs);have HI:=aA (oV.start hf);clear hf;obtain⟨⟨id,RX,prog,Md,pc,left,Mg,on,held,got,code,RU⟩,aY,bH⟩:=x;replace hs:Md=0:=hs;subst hs;obtain⟨v0,h0⟩:∃v,(pc==0)=v:=⟨_,rfl⟩
 obtain⟨v1,h1⟩:∃v,(left==0)=v:=⟨_,rfl⟩
 obtain⟨v2,h2⟩:∃v,(Mg==0)=v:=⟨_,rfl⟩
 obtain⟨v3,h3⟩:∃v,(on==0)=v:=⟨_,rfl⟩
 obtain⟨v4,h4⟩:∃v,(RU==0)=v:=⟨_,rfl⟩
 have HE:=aA (HE.I.trans (show _=(v0&&v1&&v2&&v3&&v4&&bI held) by simp only[h0,h1,h2,h3,h4]));obtain⟨c0,c1,c2,c3,c4,c5,c6,c7,c8,c9,qF,pe⟩:=bo HI.I.box;unfold aX at*;rcases ways5 v0 v1 v2 v3 v4 with rfl|⟨rfl,rfl⟩|⟨rfl,rfl,rfl⟩|⟨rfl,rfl,rfl,rfl⟩|⟨rfl,rfl,rfl,rfl,rfl⟩|⟨rfl,rfl,rfl,rfl,rfl⟩
 all_goals
  go_enter func222,ntmps222
  go_wp2;go_ret;exact⟨al Zec,HI.I.cd⟩
def state1 {x:aD}(h:x.Md=1):bO x=(dU x&&jJ x&&(x.Mg==0)&&(x.on==0)&&bI x.held):=by simp[bO,h,mu]
def CL (x:ao)(w:w_)(hf:eL w x)(hs:x.Md=1):k_ J3 222 #[a_ (aX x)] w λe w'=>e=r_ (b_ (bO x.toaD))/\B_ w.heap.size w w':=by
 have HE:=aA (state1 hs);have HI:=aA (oV.start hf);clear hf;obtain⟨⟨id,RX,prog,Md,pc,left,Mg,on,held,got,code,RU⟩,aY,bH⟩:=x;replace hs:Md=1:=hs;subst hs;obtain⟨v0,h0⟩:∃v,dU ⟨id,RX,prog,1,pc,left,Mg,on,held,got,code,RU⟩=v:=⟨_,rfl⟩
 obtain⟨v1,h1⟩:∃v,jJ ⟨id,RX,prog,1,pc,left,Mg,on,held,got,code,RU⟩=v:=⟨_,rfl⟩
 obtain⟨v2,h2⟩:∃v,(Mg==0)=v:=⟨_,rfl⟩
 obtain⟨v3,h3⟩:∃v,(on==0)=v:=⟨_,rfl⟩
 have HE:=aA (HE.I.trans (show _=(v0&&v1&&v2&&v3&&bI held) by simp only[h0,h1,h2,h3]));have tc:=aA h0;clear h0;have I8:=aA h1;clear h1;obtain⟨c0,c1,c2,c3,c4,c5,c6,c7,c8,c9,qF,pe⟩:=bo HI.I.box;unfold aX at*;rcases Jh v0 v1 v2 v3 with rfl|⟨rfl,rfl⟩|⟨rfl,rfl,rfl⟩|⟨rfl,rfl,rfl,rfl⟩|⟨rfl,rfl,rfl,rfl⟩
 all_goals
  go_enter func222,ntmps222
  go_wp2_with(first|(go_at_call 218;refine(kn _ _ HI.I.fit.1.prog).mono ?_;rintro e w1 ⟨rfl,hb1⟩;have HI:=aA (HI.I.below hb1);obtain⟨c0,c1,c2,c3,c4,c5,c6,c7,c8,c9,qF,pe⟩:=bo HI.I.box;clear hb1;rw[tc.I])|(go_at_call 224;refine(CP _ _ HI.I.fit tc.I).mono ?_;rintro e w1 ⟨rfl,hb1⟩;have HI:=aA (HI.I.below hb1);obtain⟨c0,c1,c2,c3,c4,c5,c6,c7,c8,c9,qF,pe⟩:=bo HI.I.box;clear hb1;rw[I8.I]));go_ret;exact⟨al Zec,HI.I.cd⟩
def state2 {x:aD}(h:x.Md=2):bO x=(dU x&&(x.left==0)&&cv x.Mg 1 2000000000&&(x.on==0)&&bI x.held):=by simp[bO,h,mu]
def Cw (x:ao)(w:w_)(hf:eL w x)(hs:x.Md=2):k_ J3 222 #[a_ (aX x)] w λe w'=>e=r_ (b_ (bO x.toaD))/\B_ w.heap.size w w':=by
 have HE:=aA (state2 hs);have HI:=aA (oV.start hf);clear hf;obtain⟨⟨id,RX,prog,Md,pc,left,Mg,on,held,got,code,RU⟩,aY,bH⟩:=x;replace hs:Md=2:=hs;subst hs;obtain⟨v0,h0⟩:∃v,dU ⟨id,RX,prog,2,pc,left,Mg,on,held,got,code,RU⟩=v:=⟨_,rfl⟩
 obtain⟨v1,h1⟩:∃v,(left==0)=v:=⟨_,rfl⟩
 obtain⟨v2,h2⟩:∃v,cv Mg 1 2000000000=v:=⟨_,rfl⟩
 obtain⟨v3,h3⟩:∃v,(on==0)=v:=⟨_,rfl⟩
 have HE:=aA (HE.I.trans (show _=(v0&&v1&&v2&&v3&&bI held) by simp only[h0,h1,h2,h3]));have tc:=aA h0;clear h0;have Hd:=aA h2;clear h2;obtain⟨c0,c1,c2,c3,c4,c5,c6,c7,c8,c9,qF,pe⟩:=bo HI.I.box;unfold aX at*;rcases Jh v0 v1 v2 v3 with rfl|⟨rfl,rfl⟩|⟨rfl,rfl,rfl⟩|⟨rfl,rfl,rfl,rfl⟩|⟨rfl,rfl,rfl,rfl⟩
 all_goals
  go_enter func222,ntmps222
  go_wp2_with(first|(go_at_call 218;refine(kn _ _ HI.I.fit.1.prog).mono ?_;rintro e w1 ⟨rfl,hb1⟩;have HI:=aA (HI.I.below hb1);obtain⟨c0,c1,c2,c3,c4,c5,c6,c7,c8,c9,qF,pe⟩:=bo HI.I.box;clear hb1;rw[tc.I])|(go_at_call 225;refine(kb Mg _).mono ?_;rintro e w1 ⟨rfl,hw1⟩;rw[Hd.I,hw1];clear hw1 w1));go_ret;exact⟨al Zec,HI.I.cd⟩
def stateW {x:aD}(h:x.Md=3\/x.Md=4\/x.Md=6\/x.Md=7):bO x=(dU x&&(x.left==0)&&(cv x.Mg 1 2000000000||(x.Mg== -1))&&bI x.held):=by rcases h with h|h|h|h<;>simp[bO,h,mu,lh]
def aqw (x:ao)(w:w_)(hf:eL w x)(hs:x.Md=3\/x.Md=4\/x.Md=6\/x.Md=7):k_ J3 222 #[a_ (aX x)] w λe w'=>e=r_ (b_ (bO x.toaD))/\B_ w.heap.size w w':=by
 have HE:=aA (stateW hs);have HI:=aA (oV.start hf);clear hf;obtain⟨⟨id,RX,prog,Md,pc,left,Mg,on,held,got,code,RU⟩,aY,bH⟩:=x;replace hs:Md=3\/Md=4\/Md=6\/Md=7:=hs;obtain⟨v0,h0⟩:∃v,dU ⟨id,RX,prog,Md,pc,left,Mg,on,held,got,code,RU⟩=v:=⟨_,rfl⟩
 obtain⟨v1,h1⟩:∃v,(left==0)=v:=⟨_,rfl⟩
 obtain⟨v2,h2⟩:∃v,cv Mg 1 2000000000=v:=⟨_,rfl⟩
 obtain⟨v3,h3⟩:∃v,(Mg== -1)=v:=⟨_,rfl⟩
 have HE:=aA (HE.I.trans (show _=(v0&&v1&&(v2||v3)&&bI held) by simp only[h0,h1,h2,h3]));have tc:=aA h0;clear h0;have Hd:=aA h2;clear h2;obtain⟨c0,c1,c2,c3,c4,c5,c6,c7,c8,c9,qF,pe⟩:=bo HI.I.box;unfold aX at*;rcases qL v0 v1 v2 v3 with rfl|⟨rfl,rfl⟩|⟨rfl,rfl,rfl⟩|⟨rfl,rfl,rfl,rfl⟩|⟨rfl,rfl,rfl,rfl⟩
 all_goals rcases hs with rfl|rfl|rfl|rfl
 all_goals
  go_enter func222,ntmps222
  go_wp2_with(first|(go_at_call 218;refine(kn _ _ HI.I.fit.1.prog).mono ?_;rintro e w1 ⟨rfl,hb1⟩;have HI:=aA (HI.I.below hb1);obtain⟨c0,c1,c2,c3,c4,c5,c6,c7,c8,c9,qF,pe⟩:=bo HI.I.box;clear hb1;rw[tc.I])|(go_at_call 225;refine(kb Mg _).mono ?_;rintro e w1 ⟨rfl,hw1⟩;rw[Hd.I,hw1];clear hw1 w1));go_ret;exact⟨al Zec,HI.I.cd⟩
def state5 {x:aD}(h:x.Md=5):bO x=(dU x&&(x.left==0)&&(cv x.Mg 1 2000000000||(x.Mg== -1))):=by simp[bO,h,mu,lh]
def Dp (x:ao)(w:w_)(hf:eL w x)(hs:x.Md=5):k_ J3 222 #[a_ (aX x)] w λe w'=>e=r_ (b_ (bO x.toaD))/\B_ w.heap.size w w':=by
 have HE:=aA (state5 hs);have HI:=aA (oV.start hf);clear hf;obtain⟨⟨id,RX,prog,Md,pc,left,Mg,on,held,got,code,RU⟩,aY,bH⟩:=x;replace hs:Md=5:=hs;subst hs;obtain⟨v0,h0⟩:∃v,dU ⟨id,RX,prog,5,pc,left,Mg,on,held,got,code,RU⟩=v:=⟨_,rfl⟩
 obtain⟨v1,h1⟩:∃v,(left==0)=v:=⟨_,rfl⟩
 obtain⟨v2,h2⟩:∃v,cv Mg 1 2000000000=v:=⟨_,rfl⟩
 obtain⟨v3,h3⟩:∃v,(Mg== -1)=v:=⟨_,rfl⟩
 have HE:=aA (HE.I.trans (show _=(v0&&v1&&(v2||v3)) by simp only[h0,h1,h2,h3]));have tc:=aA h0;clear h0;have Hd:=aA h2;clear h2;obtain⟨c0,c1,c2,c3,c4,c5,c6,c7,c8,c9,qF,pe⟩:=bo HI.I.box;unfold aX at*;rcases qL v0 v1 v2 v3 with rfl|⟨rfl,rfl⟩|⟨rfl,rfl,rfl⟩|⟨rfl,rfl,rfl,rfl⟩|⟨rfl,rfl,rfl,rfl⟩
 all_goals
  go_enter func222,ntmps222
  go_wp2_with(first|(go_at_call 218;refine(kn _ _ HI.I.fit.1.prog).mono ?_;rintro e w1 ⟨rfl,hb1⟩;have HI:=aA (HI.I.below hb1);obtain⟨c0,c1,c2,c3,c4,c5,c6,c7,c8,c9,qF,pe⟩:=bo HI.I.box;clear hb1;rw[tc.I])|(go_at_call 225;refine(kb Mg _).mono ?_;rintro e w1 ⟨rfl,hw1⟩;rw[Hd.I,hw1];clear hw1 w1));go_ret;exact⟨al (by rw[HE.I];simp),HI.I.cd⟩
def zu (x:ao)(w:w_)(h0:¬x.Md=0)(h1:¬x.Md=1)(h2:¬x.Md=2)(h3:¬x.Md=3)(h4:¬x.Md=4)(h5:¬x.Md=5)(h6:¬x.Md=6)(h7:¬x.Md=7):k_ J3 222 #[a_ (aX x)] w λe w'=>e=r_ (b_ (bO x.toaD))/\B_ w.heap.size w w':=by
 have HV:da (bO x.toaD=false):=by show bO x.toaD=false;simp[bO,h0,h1,h2,h3,h4,h5,h6,h7]
 have s0:(x.Md==0)=false:=ZfI
 have s1:(x.Md==1)=false:=Zea
 have s2:(x.Md==2)=false:=by simp[h2]
 have s3:(x.Md==3)=false:=by simp[h3]
 have s4:(x.Md==4)=false:=by simp[h4]
 have s5:(x.Md==5)=false:=by simp[h5]
 have s6:(x.Md==6)=false:=by simp[h6]
 have s7:(x.Md==7)=false:=by simp[h7]
 clear h0 h1 h2 h3 h4 h5 h6 h7;unfold aX
 go_enter func222,ntmps222
 exact Zai
def Am (x:ao)(w:w_)(hf:eL w x):k_ J3 222 #[a_ (aX x)] w λe w'=>e=r_ (b_ (bO x.toaD))/\B_ w.heap.size w w':=by
 by_cases h0:x.Md=0
 .exact Da x w hf h0
 by_cases h1:x.Md=1
 .exact CL x w hf h1
 by_cases h2:x.Md=2
 .exact Cw x w hf h2
 by_cases h3:x.Md=3
 .exact aqw x w hf (.inl h3)
 by_cases h4:x.Md=4
 .exact aqw x w hf (.inr (.inl h4))
 by_cases h5:x.Md=5
 .exact Dp x w hf h5
 by_cases h6:x.Md=6
 .exact aqw x w hf (.inr (.inr (.inl h6)))
 by_cases h7:x.Md=7
 .exact aqw x w hf (.inr (.inr (.inr h7)))
 exact zu x w h0 h1 h2 h3 h4 h5 h6 h7
end Go.Proofs.YtckenjkcmajicaaGreat

namespace Go.Proofs.YtckenjkcmajicaaGreat
open Go.Maps
section
variable {α:Type}{vs:α->Array v_}{num:α->Int}{T:T_}
def RW (num:α->Int)(l:List (α×Nat)):df:=l.map λp=>(num p.1,p.2)
structure Shelf (vs:α->Array v_)(num:α->Int)(T:T_)(w:w_)(bj b:Nat)(l:List (α×Nat)):Prop where
 map:cF w b (RW num l)
 box:∀p∈l,w.heap[p.2]? =o_ (c_ (vs p.1) T)
 nodup:(b::l.map (·.2)).Nodup
 low:∀g∈b::l.map (·.2),bj<=g
def Shelf.lt {w:w_}{bj b:Nat}{l:List (α×Nat)}(h:Shelf vs num T w bj b l):∀g∈b::l.map (·.2),g<w.heap.size:=λg hg=>by
 rcases Kt.1 hg with rfl|hg
 .exact h.map.lt
 .obtain ⟨p,hp,rfl⟩:=Lr.1 hg
  exact(J2.1 (h.box p hp)).1
def Shelf.same {w w':w_}{bj b:Nat}{l:List (α×Nat)}(h:Shelf vs num T w bj b l)(hs:∀g∈b::l.map (·.2),w'.heap[g]? =w.heap[g]?):Shelf vs num T w' bj b l:=
 ⟨h.map.same (hs b zy),λp hp=>(hs p.2 (LB _ (Lr.2 ⟨p,hp,rfl⟩))).trans (h.box p hp),h.nodup,h.low⟩
def Shelf.below {w w':w_}{bj b:Nat}{l:List (α×Nat)}(h:Shelf vs num T w bj b l)(hb:B_ w.heap.size w w'):Shelf vs num T w' bj b l:=h.same λg hg=>hb.block g (h.lt g hg)
def Shelf.lower {w:w_}{bj base' b:Nat}{l:List (α×Nat)}(h:Shelf vs num T w bj b l)(hb:base'<=bj):Shelf vs num T w base' b l:=⟨h.map,h.box,h.nodup,λg hg=>LG hb (h.low g hg)⟩
def Shelf.none {w:w_}{bj b:Nat}(hb:w.heap[b]? =o_ (.map #[] 0))(hl:bj<=b):Shelf vs num T w bj b []:=
 ⟨cF.Hh hb,(λp hp=>ZfO),zy,λg hg=>by simp at hg;subst hg;exact hl⟩
def fc (num:α->Int)(p:α×Nat):List (α×Nat)->List (α×Nat)
 |[]=>[p]
 |y::r=>if num p.1<num y.1 then p::y::r else y::fc num p r
def EE (p:α×Nat)(l:List (α×Nat)):RW num (fc num p l)=oK (num p.1,p.2) (RW num l):=by
 induction l with
 |nil=>rfl
 |cons y r ih=>
  simp only[fc,RW,Lt,oK]at ih⊢
  split
  .rfl
  .simp only[Lt,ih]
def lC (p:α×Nat)(l:List (α×Nat)):(fc num p l).Perm (p::l):=by
 induction l with
 |nil=>exact RA _
 |cons y r ih=>
  unfold fc
  split
  .exact RA _
  .exact (List.Perm.cons y ih).trans (List.Perm.swap p y r)
def Er {p:α×Nat}{l:List (α×Nat)}(h:∀q∈l,num q.1<num p.1):fc num p l=l++[p]:=by
 induction l with
 |nil=>rfl
 |cons y r ih=>
  have:=h y zy
  unfold fc;rw[if_neg zw,ih (λq hq=>h q (by simp[hq]))];rfl
def bZ (l:List (α×Nat)):(RW num l).length=l.length:=by simp[RW]
def Shelf.lay {w w':w_}{bj b:Nat}{l:List (α×Nat)}{x:α}{e:Ending}(h:Shelf vs num T w bj b l)(hb:bj<=w.heap.size)(hl:dD w b (RW num l) true (num x) (vs x) T e w'):
  ∃g,w.heap.size<=g/\Shelf vs num T w' bj b (fc num (x,g) l)/\w.grownBy w' (o_ b):=by
 obtain⟨-,-,h3⟩:=hl;obtain⟨g,hg,lD,hmap,hgr⟩:=h3 rfl;have hpm:((fc num (x,g) l).map (·.2)).Perm (g::l.map (·.2)):=(lC (num:=num) (x,g) l).map (·.2);refine⟨g,hg,⟨?_,λp hp=>?_,?_,λk hk=>?_⟩,hgr⟩
 .rw [EE];exact hmap
 .rcases Kt.1 ((lC (num:=num) (x,g) l).mem_iff.1 hp)with rfl|hp
  .exact lD
  .have hne:¬p.2=b:=λe=>by
    have:=(Lp.1 h.nodup).1
    exact this (Lr.2 ⟨p,hp,e⟩)
   exact(hgr.block p.2 (h.lt p.2 (LB _ (Lr.2 ⟨p,hp,rfl⟩))) (λe=>hne (KC e))).trans (h.box p hp)
 .refine ((List.Perm.cons b hpm).nodup_iff).2 ?_
  refine((List.Perm.swap g b (l.map (·.2))).nodup_iff).2 ?_;refine Lp.2 ⟨λhm=>?_,h.nodup⟩
  have:=h.lt g hm
  omega
 .rcases Kt.1 hk with rfl|hk
  .exact h.low k zy
  .rcases Kt.1 (hpm.mem_iff.1 hk)with rfl|hk
   .omega
   .exact h.low k (LB _ hk)
def jN (vs:α->Array v_)(num:α->Int)(T:T_)(w:w_)(Me:Int)(ok:Bool)(dg:List α)(e:Ending)(w':w_):Prop:=
 B_ w.heap.size w w'/\((ok=false/\e=r_ (u_ #[a_ #[i_ j_ 0,.map n_],b_ false]))\/
  (ok=true/\∃b l,e=r_ (u_ #[a_ #[i_ j_ Me,.map (o_ b)],b_ true])/\l.map (·.1)=dg/\Shelf vs num T w' w.heap.size b l))
structure eS (vs:α->Array v_)(num:α->Int)(T TS:T_)(w wr:w_)(Me:Int)(l:List (α×Nat)):Prop where
 res:wr.heap[w.heap.size]? =o_ (c_ #[i_ j_ 0,.map n_] TS)
 var:wr.heap[w.heap.size+1+1]? =o_ (c_ #[i_ j_ Me,.map (o_ (w.heap.size+1))] TS)
 eh:Shelf vs num T wr (w.heap.size+1) (w.heap.size+1) l
 cd:B_ w.heap.size w wr
def eS.below {TS:T_}{w wr w':w_}{Me:Int}{l:List (α×Nat)}(h:eS vs num T TS w wr Me l)(hb:B_ wr.heap.size wr w'):eS vs num T TS w w' Me l:=
 ⟨(hb.block _ (J2.1 h.res).1).trans h.res,(hb.block _ (J2.1 h.var).1).trans h.var,h.eh.below hb,h.cd.trans (hb.mono h.cd.size)⟩
def eS.start (TS:T_)(w:w_)(Me:Int):eS vs num T TS w (((w.alloc (c_ #[i_ j_ 0,.map n_] TS)).alloc (.map #[] 0)).alloc (c_ #[i_ j_ Me,.map (o_ (w.heap.size+1))] TS)) Me []:=by
 have b1:B_ w.heap.size w (w.alloc (c_ #[i_ j_ 0,.map n_] TS)):=(Kp _ _).alloc (Ki _) _;have b2:=b1.alloc b1.size (.map #[] 0);have b3:=b2.alloc b2.size (c_ #[i_ j_ Me,.map (o_ (w.heap.size+1))] TS);refine⟨?_,?_,Shelf.none ?_ zw,b3⟩
 .rw [PU ZbI,PU zy,Kj]
 .have:=Kj ((w.alloc (c_ #[i_ j_ 0,.map n_] TS)).alloc (.map #[] 0)) (c_ #[i_ j_ Me,.map (o_ (w.heap.size+1))] TS)
  simpa using this
 .rw [PU zy]
  exact Kq _ _ _
def eS.cells {TS:T_}{w wr:w_}{Me:Int}{l:List (α×Nat)}(h:eS vs num T TS w wr Me l):
  wr.cell? ⟨w.heap.size,0,n_⟩=o_ (i_ j_ 0)/\wr.cell? ⟨w.heap.size,1,n_⟩=o_ (.map n_)/\wr.cell? ⟨w.heap.size+1+1,0,n_⟩=o_ (i_ j_ Me)/\wr.cell? ⟨w.heap.size+1+1,1,n_⟩=o_ (.map (o_ (w.heap.size+1)))/\wr.frozen? ⟨w.heap.size,0,n_⟩=false/\wr.frozen? ⟨w.heap.size,1,n_⟩=false:=by
 have h1:=h.res;have h2:=h.var;refine⟨by simp[World.cell?,h1],by simp[World.cell?,h1],by simp[World.cell?,h2],by simp[World.cell?,h2],Ko _ _ _ _ _ h1,Ko _ _ _ _ _ h1⟩
def eS.lay {TS:T_}{w wr w':w_}{Me:Int}{l:List (α×Nat)}{x:α}{e:Ending}(h:eS vs num T TS w wr Me l)(hl:dD wr (w.heap.size+1) (RW num l) true (num x) (vs x) T e w')(hr:∀q∈l,num q.1<num x):
  ∃g,eS vs num T TS w w' Me (l++[(x,g)]):=by
 obtain⟨g,hg,hs,hgr⟩:=h.eh.lay (by have:=(J2.1 h.var).1;omega) hl;rw[Er hr]at hs;refine⟨g,(hgr.block _ (J2.1 h.res).1 zy).trans h.res,(hgr.block _ (J2.1 h.var).1 zy).trans h.var,hs,?_⟩;exact h.cd.trans ⟨hgr.os,hgr.tape,hgr.output,hgr.size,λk hk=>hgr.block k ZdX (λe=>Zcb)⟩
def xq {ok:α->Bool}:∀{l:List α}{last:Int},aw num ok last l=true->last<=bW num last l/\∀y∈l,num y<=bW num last l
 |[],last,_=>⟨LJ _,λy hy=>by cases hy⟩
 |x::r,last,h=>by
  simp only[aw,J7,decide_eq_true_eq]at h;obtain⟨h1,h2⟩:=xq h.2;simp only[bW];refine⟨zw,λy hy=>?_⟩;rcases Kt.1 hy with rfl|hy
  .exact h1
  .exact h2 y hy
def jB {ok:α->Bool}{l:List (α×Nat)}{dg:List α}{last:Int}{x:α}(hm:l.map (·.1)=dg)(h:aw num ok last dg=true)(hx:bW num last dg<num x):∀q∈l,num q.1<num x:=λq hq=>by
 have:=(xq h).2 q.1 (by rw[<-hm];exact Lr.2 ⟨q,hq,rfl⟩)
 omega
def Ej {l:List (α×Nat)}{x:α}(h:∀q∈l,num q.1<num x):cz (RW num l) (num x)=n_:=by
 rw[qA];intro hm;simp only[RW,Lv,Lr]at hm;obtain⟨q,hq,e⟩:=hm
 have:=h q hq
 simp only[Function.comp]at e;omega
def iC {ok:α->Bool}{dg:List α}{k:Nat}{x:α}{Me:Int}{l:List (α×Nat)}(hx:dg[k]? =o_ x)(hm:l.map (·.1)=dg.take k)(oC:aw num ok 0 (dg.take k)=true)(hlt:bW num 0 (dg.take k)<num x)(h:iI Me (RW num l) (num x) (ok x)=false):
  (aw num ok 0 dg&&decide ((dg.length:Int)<=max Me 0))=false:=by
 have hk:k<dg.length:=(Lj.1 hx).1;have hn:=Ej (jB hm oC hlt);have hlen:l.length=k:=by
  have:=congrArg List.length hm
  simp only[KG,Lk]at this;omega
 simp only[iI,hn,bZ,hlen]at h;by_cases h1:(k:Int)<Me
 .have:aw num ok 0 dg=false:=bS hx (λhh=>by
   rw[hh.1,hh.2.2,decide_eq_true h1]at h;simp at h)
  rw[this];rfl
 .have:decide ((dg.length:Int)<=max Me 0)=false:=decide_eq_false zw
  rw[this,PP]
def gM {ok:α->Bool}{dg:List α}{k:Nat}{x:α}{Me:Int}{l:List (α×Nat)}(hx:dg[k]? =o_ x)(hm:l.map (·.1)=dg.take k)(oC:aw num ok 0 (dg.take k)=true)(hlt:bW num 0 (dg.take k)<num x)(h:iI Me (RW num l) (num x) (ok x)=true):
  aw num ok 0 (dg.take (k+1))=true/\((k+1:Nat):Int)<=max Me 0:=by
 have hlen:l.length=k:=by
  have:=congrArg List.length hm
  have hk:k<dg.length:=(Lj.1 hx).1;simp only[KG,Lk]at this;omega
 simp only[iI,J7,decide_eq_true_eq,bZ,hlen]at h;exact⟨ed oC hx h.1.2 hlt h.2,zw⟩
def eS.lu {TS:T_}{w wr:w_}{Me:Int}{l:List (α×Nat)}(h:eS vs num T TS w wr Me l)(v0 v1:v_):Shelf vs num T ((wr.setCell ⟨w.heap.size,0,n_⟩ v0).setCell ⟨w.heap.size,1,n_⟩ v1) w.heap.size (w.heap.size+1) l/\B_ w.heap.size w ((wr.setCell ⟨w.heap.size,0,n_⟩ v0).setCell ⟨w.heap.size,1,n_⟩ v1):=by
 refine⟨(h.eh.same λg hg=>?_).lower zw,(h.cd.setCell (Ki _) _).setCell (Ki _) _⟩
 have:=h.eh.low g hg
 rw[K6 _ _ _ _ (by show g≠w.heap.size;omega),K6 _ _ _ _ (by show g≠w.heap.size;omega)]
end
def two {b:Bool}{P:Prop}(_:b=false->P):b=false\/b=true:=by cases b<;>simp
end Go.Proofs.YtckenjkcmajicaaGreat

namespace Go.Proofs
open Go.RowKit Go.Maps Go.Sort Go.Shelf
def Tryz.sortsA (m:Nat):AnyZI.SortsIn J3 Tryz.sortedA_ren Fence.wide m:=
  ⟨λblk off cap ss W hH hblk hsz=>YtckenjkcmajicaaGreat.LO.2 (AnyM.slices_Sort_int Tryz.sortA blk off cap ss W hH hblk hsz),
   λp cap W=>YtckenjkcmajicaaGreat.LO.2 (AnyM.slices_Sort_int_none Tryz.sortA p cap W)⟩
namespace YtckenjkcmajicaaGreat
def oA :∀{l1 l2:List Int},l1.Perm l2->l1.Pairwise (· <= ·)->l2.Pairwise (· <= ·)->l1=l2
  |[],l2,hp,_,_=>(List.nil_perm.1 hp).symm
  |a::t,[],hp,_,_=>absurd (List.perm_nil.1 hp) zy
  |a::t,b::s,hp,h1,h2=>by
    obtain⟨ha,ht⟩:=LM.1 h1;obtain⟨hb,hs⟩:=LM.1 h2;have hab:a=b:=by
      have m1:a∈b::s:=hp.mem_iff.1 zy;have m2:b∈a::t:=hp.mem_iff.2 zy;rcases Kt.1 m1 with e|m1
      . exact e
      . rcases Kt.1 m2 with e|m2
        . exact e.symm
        . have:=ha b m2
          have:=hb a m1;omega
    subst hab;rw[oA (List.perm_cons a|>.1 hp) ht hs]
def lU (m:df):intKeys (gA m)=m.map (·.1):=by
  simp only[intKeys,gA,Lv];rfl
def jG {m:df}(h:zP m){ss:List Int}(hp:ss.Perm (intKeys (gA m))):ss.mergeSort (λx y=>decide (x<=y))=m.map (·.1):=by
  rw[lU]at hp;refine oA ((List.mergeSort_perm _ _).trans hp) ?_ ?_
  . have:=List.pairwise_mergeSort (le:=λx y:Int=>decide (x<=y)) (λa b c h1 h2=>by simp at*;omega) (λa b=>by simp;omega) ss
    exact this.imp (λ{a b} h=>by simpa using h)
  . rw[Qm]
    exact List.Pairwise.imp (λ{a b} h=>by omega) h
def cr {w:w_}{bj n size:Nat}{e:T_}{v:v_}{xs:List v_}(h:w.ownsRow bj e size v n xs):∃a cap,v=s_ a n cap/\Row w a xs:=by
  obtain⟨hl,h2⟩:=h;rcases h2 with⟨rfl,rfl⟩|⟨g,cap,cur,rfl,hb,hg,h3,h4,h5,h6⟩
  . have:xs=[]:=List.eq_nil_of_length_eq_zero (by simpa using hl)
    subst this;exact⟨n_,0,rfl,Row.nothing _ _⟩
  . refine⟨o_ ⟨g,0,n_⟩,cap,rfl,λj u hu=>⟨g,rfl,?_⟩⟩
    rw[K5 w g j cur e (0,0) hg];rw[<-h6,QW]at hu
    split at hu
    . simpa using hu
    . cases hu
def cq {w:w_}{bj base' n size:Nat}{e:T_}{v:v_}{xs:List v_}(h:w.ownsRow bj e size v n xs)(hb:base'<=bj):w.ownsRow base' e size v n xs:=by
  obtain⟨hl,h2⟩:=h;refine⟨hl,?_⟩;rcases h2 with h2|⟨g,cap,cur,h1,h3,h4⟩
  . exact .inl h2
  . exact .inr ⟨g,cap,cur,h1,by omega,h4⟩
def anZ (T:T_)(w2:w_)(m:df)(k:Nat)(a:Option d_)(cap:Nat)(wr:w_):Prop:=wr.ownsRow w2.heap.size T 1 (s_ a k cap) k ((m.take k).map λp=>dt p.2)/\B_ w2.heap.size w2 wr
end YtckenjkcmajicaaGreat
end Go.Proofs

namespace Go.Proofs.YtckenjkcmajicaaGreat
def wo (x:ao)(w:w_)(hf:eL w x):k_ J3 220 #[a_ (aX x)] w λe w'=>e=r_ (b_ (cH x.toaD))/\B_ w.heap.size w w':=by
 have HI:da (oV w (w.alloc (c_ (aX x) 125)) x):=oV.start hf;have HE:da (cH x.toaD=(cv x.RX 1 50&&jm x.prog&&bw x.held&&bw x.got&&cv x.code 0 3&&bO x.toaD)):=rfl;have HB:da (B_ w.heap.size w (w.alloc (c_ (aX x) 125))):=HI.I.cd;obtain⟨c0,c1,c2,c3,c4,c5,c6,c7,c8,c9,qF,pe⟩:=bo HI.I.box;clear hf;unfold aX at*;by_cases h1:1<=x.RX;rotate_left
 .have HV:da (cH x.toaD=false):=by show cH _=false;rw[HE.I,mA zw];rfl
  exact Zbc
 by_cases h2:x.RX<=50;rotate_left
 .have HV:da (cH x.toaD=false):=by show cH _=false;rw[HE.I,kR zw];rfl
  exact Zbc
 have HP:da (cv x.RX 1 50=true):=eB h1 h2
 go_enter func220,ntmps220
 go_wp2_with fail;refine(wI x.aY x.prog x.bH _ HI.I.fit.1.prog HI.I.fit.1.ops HI.I.fit.2).mono ?_;rintro e w1 ⟨rfl,hb1⟩;have Hs:da (oV w w1 x):=HI.I.below hb1;clear hb1 c0 c1 c2 c3 c4 c5 c6 c7 c8 c9 qF pe HI HB;obtain⟨c0,c1,c2,c3,c4,c5,c6,c7,c8,c9,qF,pe⟩:=bo Hs.I.box;have hsh:=Hs.I.fit.1.held;have hsg:=Hs.I.fit.1.got;cases hl:jm x.prog with
 |false=>
  have HV:da (cH x.toaD=false):=by show cH _=false;rw[HE.I,hl];simp
  clear HE hl;exact Zao
 |true=>
  have HL:da (jm x.prog=true):=hl;clear hl;go_wp2_with fail;refine(iM x.held _ hsh).mono ?_;rintro e w2 ⟨rfl,hw2⟩;subst hw2;cases hh:bw x.held with
  |false=>
   have HV:da (cH x.toaD=false):=by show cH _=false;rw[HE.I,hh];simp
   clear HE hh;exact Zao
  |true=>
   have HH:da (bw x.held=true):=hh;clear hh;go_wp2_with fail;refine(iM x.got _ hsg).mono ?_;rintro e w2 ⟨rfl,hw2⟩;subst hw2;cases hg:bw x.got with
   |false=>
    have HV:da (cH x.toaD=false):=by show cH _=false;rw[HE.I,hg];simp
    clear HE hg;exact Zao
   |true=>
    have HG:da (bw x.got=true):=hg;clear hg;by_cases h3:0<=x.code;rotate_left
    .have HV:da (cH x.toaD=false):=by show cH _=false;rw[HE.I,mA (n:=x.code) zw];simp
     clear HE;exact Zao
    by_cases h4:x.code<=3;rotate_left
    .have HV:da (cH x.toaD=false):=by show cH _=false;rw[HE.I,kR (n:=x.code) zw];simp
     clear HE;exact Zao
    have HC:da (cv x.code 0 3=true):=eB h3 h4;go_wp2_with fail;refine(Am x _ Hs.I.fit).mono ?_;rintro e w2 ⟨rfl,hb2⟩;have jA:da (oV w w2 x):=Hs.I.below hb2;clear hb2;have HV:da (cH x.toaD=bO x.toaD):=by show cH _=_;rw[HE.I,HP.I,HL.I,HH.I,HG.I,HC.I];simp
    clear HE;go_wp2;go_ret;exact⟨al HV.I.symm,jA.I.cd⟩
end Go.Proofs.YtckenjkcmajicaaGreat

namespace Go.Proofs.YtckenjkcmajicaaGreat
def qZ (g j:Nat):(⟨g,0,n_⟩:d_).add j=⟨g,j,n_⟩:=Zd8
def sZ {P:Program}(w:w_)(t ty e:T_)(i:TypeInfo)(z:v_)(size bytes:Nat)(ht:P.underlying t=o_ (.slice e))(hi:P.info? e=o_ i)(hz:i.zero=o_ z)
  (hsize:i.size=size)(hby:i.bytes=bytes)(hzs:z.cells.size=size)(hsz:0<size)(a:Option d_)(n cap:Nat)(xs:List v_)(h:Row w a xs)(hl:xs.length=n*size)(h1:∀u∈xs,u.oneCell'=true)
  (h63:n<=1048576)(hb:bytes<=1000):
  ∃a' cap' w',(Builtin.append_ #[t,t] ty #[s_ n_ 0 0,s_ a n cap]).run P w=.ok (s_ a' n cap') w'/\w'.ownsRow w.heap.size e size (s_ a' n cap') n xs/\w.grownBy w' n_:=by
 cases a with
 |none=>
  have hx:xs=[]:=by
   exact Zbd
  subst hx;have hn:n=0:=by
   cases n with
   |zero=>rfl
   |succ n=>simp only[List.length_nil,Lh]at hl;omega
  subst hn;refine⟨n_,0,w,?_,Ke _ _ _ _,⟨rfl,rfl,rfl,Ki _,λ_ _ _=>rfl⟩⟩;simp[Builtin.append_,run_underlying ht,sizeOf,typeInfo,hi,Builtin.lenOf,Builtin.firstCells]
 |some ad=>
  have hnews:∀j u,xs[j]? =o_ u->w.cell? (ad.add j)=o_ u:=λj u hu=>by
   obtain⟨g,e',hc⟩:=h j u hu;cases e';rw[qZ];exact hc
  obtain⟨v',w',hr,ho,hg,-,-⟩:=run_append_own_at (P:=P) w w.heap.size t ty e i z size bytes ht hi hz hsize hby hzs hsz (s_ n_ 0 0) 0 [] (Ke _ _ _ _) ad n cap xs hl hnews h1 Zb2 (by rw[Li];have:=Nat.mul_le_mul h63 hb;omega) (Ki _);simp only[Li,List.nil_append]at ho;obtain⟨a',cap',rfl,-⟩:=cr ho;exact⟨a',cap',w',hr,ho,hg⟩
end Go.Proofs.YtckenjkcmajicaaGreat

namespace Go.Proofs.YtckenjkcmajicaaGreat
def jx (W:w_)(X:Nat)(x:ao):Prop:=W.heap[X]? =o_ (c_ #[i_ j_ x.id,i_ j_ x.RX,s_ x.aY x.prog.length x.bH,i_ j_ x.Md,i_ j_ x.pc,i_ j_ x.left,i_ j_ x.Mg,i_ j_ x.on,t_ x.held,t_ x.got,i_ j_ x.code,i_ j_ x.RU] 125)
def av (W:w_)(B:Nat)(p:af):Prop:=W.heap[B]? =o_ (c_ #[i_ j_ p.id,i_ j_ p.next,s_ p.aN p.L8.length p.aW,s_ p.bc p.aj.length p.bF,s_ p.ay p.L9.length p.aO,s_ p.ax p.ag.length p.aP,s_ p.am p.ae.length p.aG,s_ p.aK p.ai.length p.aV] 46)
def jx.below {W W':w_}{X:Nat}{x:ao}(h:jx W X x)(hb:B_ W.heap.size W W'):jx W' X x:=(hb.block X (J2.1 h).1).trans h
def av.below {W W':w_}{X:Nat}{x:af}(h:av W X x)(hb:B_ W.heap.size W W'):av W' X x:=(hb.block X (J2.1 h).1).trans h
def jx.cells {W:w_}{X:Nat}{x:ao}(h:jx W X x):
  W.cell? ⟨X,0,n_⟩=o_ (i_ j_ x.id)/\W.cell? ⟨X,1,n_⟩=o_ (i_ j_ x.RX)/\W.cell? ⟨X,2,n_⟩=o_ (s_ x.aY x.prog.length x.bH)/\W.cell? ⟨X,3,n_⟩=o_ (i_ j_ x.Md)/\W.cell? ⟨X,4,n_⟩=o_ (i_ j_ x.pc)/\W.cell? ⟨X,5,n_⟩=o_ (i_ j_ x.left)/\W.cell? ⟨X,6,n_⟩=o_ (i_ j_ x.Mg)/\W.cell? ⟨X,7,n_⟩=o_ (i_ j_ x.on)/\W.cell? ⟨X,8,n_⟩=o_ (t_ x.held)/\W.cell? ⟨X,9,n_⟩=o_ (t_ x.got)/\W.cell? ⟨X,10,n_⟩=o_ (i_ j_ x.code)/\W.cell? ⟨X,11,n_⟩=o_ (i_ j_ x.RU):=by
 unfold jx at h;simp[World.cell?,h]
def av.cells {W:w_}{X:Nat}{p:af}(h:av W X p):
  W.cell? ⟨X,0,n_⟩=o_ (i_ j_ p.id)/\W.cell? ⟨X,1,n_⟩=o_ (i_ j_ p.next)/\W.cell? ⟨X,2,n_⟩=o_ (s_ p.aN p.L8.length p.aW)/\W.cell? ⟨X,3,n_⟩=o_ (s_ p.bc p.aj.length p.bF)/\W.cell? ⟨X,4,n_⟩=o_ (s_ p.ay p.L9.length p.aO)/\W.cell? ⟨X,5,n_⟩=o_ (s_ p.ax p.ag.length p.aP)/\W.cell? ⟨X,6,n_⟩=o_ (s_ p.am p.ae.length p.aG)/\W.cell? ⟨X,7,n_⟩=o_ (s_ p.aK p.ai.length p.aV):=by
 unfold av at h;simp[World.cell?,h]
def bh (p:aE)(x:aD):Bool:=cv x.id 1 1000&&cH x&&fF p.next x&&dG p x
structure nI (w W:w_)(P X:Nat)(p:af)(x:ao):Prop where
 part:av W P p
 proc:jx W X x
 at':af.At W p
 prog:Row W x.aY (fk.flat x.prog)
 cd:B_ w.heap.size w W
def nI.below {w W W':w_}{P X:Nat}{p:af}{x:ao}(h:nI w W P X p x)(hb:B_ W.heap.size W W'):nI w W' P X p x:=
 ⟨h.part.below hb,h.proc.below hb,h.at'.below hb,h.prog.below hb,h.cd.trans (hb.mono h.cd.size)⟩
def zc {w:w_}{p:af}{x:ao}(h:af.At w p)(hr:Row w x.aY (fk.flat x.prog)):nI w ((w.alloc (c_ p.cells 46)).alloc (c_ (aX x) 125)) w.heap.size (w.heap.size+1) p x:=by
 have b1:B_ w.heap.size w (w.alloc (c_ p.cells 46)):=(Kp _ _).alloc (Ki _) _;have b2:B_ w.heap.size w ((w.alloc (c_ p.cells 46)).alloc (c_ (aX x) 125)):=b1.alloc b1.size _;exact⟨(PU zy).trans (Kj _ _),Kq _ _ _,h.below b2,hr.below b2,b2⟩
def xQ {x:aD}(h:cv x.Md 0 7=false):bO x=false:=by
 have h':x.Md<0\/7<x.Md:=by
  have:¬(0<=x.Md/\x.Md<=7):=λhh=>by rw[eB hh.1 hh.2]at h;cases h
  omega
 unfold bO;exact Za1
def EG {x:aD}{n:Nat}{o:dN}(hp:jm x.prog=true)(hpc:x.pc=n)(ho:x.prog[n]? =o_ o):jJ x=(decide (x.left=0)||(decide (o.1=1)&&cv x.left 1 (o.2.1-1))):=by
 have e1:opAt x=o:=by
  unfold opAt;rw[hpc,Int.toNat_natCast,ho];rfl
 have hn:o.1=1->1<=o.2.1:=λh1=>by
  have hk:n<x.prog.length:=(Lj.1 ho).1;have hb:nq x.prog.length (Cd x.prog) (Cg x.prog) (Ea x.prog) (Ce x.prog)=true:=hp;simp only[nq,decide_eq_true_eq]at hb
  have:=hb.2.2 n hk
  simp only[j8,Cd,Cg,ho,Ka,mQ,h1]at this;simp only[true_or,if_true,J7]at this
  have:=bz.1 this.1.1
  omega
 simp only[jJ,e1];by_cases h1:o.1=1
 .have:=hn h1
  simp only[h1,if_true,decide_true,Bool.true_and];by_cases h2:x.left=0
  .simp [h2];omega
  .simp only[h2,decide_false,Qg,cv]
   by_cases h3:0<=x.left
   .by_cases h4:x.left<o.2.1
    .simp [h3,h4];omega
    .simp [h3,h4];omega
   .simp [h3];omega
 .simp [h1]
def GK {x:aD}{b c:Bool}(h:¬x.Md=0):(bO x&&b&&c)=(dU x&&(bO x&&b&&c)):=by
 cases ho:dU x with
 |true=>simp
 |false=>
  have:bO x=false:=by
   simp only[bO,h,if_false,ho];simp
  simp[this]
def CH {x:aD}(h0:¬x.Md=0)(h1:¬x.Md=1)(hl:¬x.left=0):bO x=false:=by
 simp only[bO,h0,h1,if_false,hl,decide_false];simp
def C3 {x:aD}(h0:¬x.Md=0)(h1:¬x.Md=1)(h5:¬x.Md=5)(hl:bI x.held=false):bO x=false:=by
 simp only[bO,h0,h1,h5,if_false,hl];simp
def Dn {p:aE}{x:aD}(h0:¬x.Md=0)(h1:¬x.Md=1)(h2:¬x.Md=2)(h5:¬x.Md=5)(hb:0<=x.Md/\x.Md<=7)(ho:dU x=true)(hl:x.left=0)(hh:bI x.held=true):(bO x&&dG p x)=(lh x.Mg&&hasB p x.Md x.on):=by
 have h4:x.Md=3\/x.Md=4\/x.Md=6\/x.Md=7:=zw
 have h3:3<=x.Md:=zw
 simp only[bO,dG,h0,h1,h2,h5,if_false,h4,if_true,h3,ho,hl,hh];simp
def op_ge {l:List dN}{n:Nat}{o:dN}(hp:jm l=true)(ho:l[n]? =o_ o):o.1=1->1<=o.2.1/\o.2.1<=1000:=by
 intro h1
 .have hk:n<l.length:=(Lj.1 ho).1
  have hb:nq l.length (Cd l) (Cg l) (Ea l) (Ce l)=true:=hp;simp only[nq,decide_eq_true_eq]at hb
  have:=hb.2.2 n hk
  simp only[j8,Cd,Cg,ho,Ka,mQ,h1]at this;simp only[true_or,if_true,J7]at this
  have:=bz.1 this.1.1
  exact⟨zw,zw⟩
def lk (p:af)(x:ao)(w:w_)(hp:p.dX)(hx:x.dX)(h1:1<=p.next)(h2:p.next<=1000000000)(h:af.At w p)(hr:Row w x.aY (fk.flat x.prog)):
  k_ J3 72 #[a_ p.cells,a_ (aX x)] w λe w'=>e=r_ (b_ (bh p.pure x.toaD))/\B_ w.heap.size w w':=by
 have H0:da (nI w ((w.alloc (c_ p.cells 46)).alloc (c_ (aX x) 125)) w.heap.size (w.heap.size+1) p x):=zc h hr;have HS:da (p.dX/\x.dX):=⟨hp,hx⟩
 have HE:da (bh p.pure x.toaD=(cv x.id 1 1000&&(cv x.RX 1 50&&jm x.prog&&bw x.held&&bw x.got&&cv x.code 0 3&&bO x.toaD)&&fF p.next x.toaD&&dG p.pure x.toaD)):=rfl;obtain⟨m0,m1,m2,m3,m4,m5,m6,m7⟩:=H0.I.part.cells;obtain⟨k0,k1,k2,k3,k4,k5,k6,k7,k8,k9,k10,k11⟩:=H0.I.proc.cells;have hpl:=hx.prog;have hhs:=hx.held;have hgs:=hx.got;clear h hr hp hx;unfold af.cells aX at*
 go_enter func72,ntmps72
 go_wp2_with fail;generalize(w.alloc (c_ p.row 46)).alloc (c_ x.row 125)=W at*;have HP:da (nI w W w.heap.size (w.heap.size+1) p x):=H0.I;clear H0;refine(dx x.id 1 1000 _).mono ?_;rintro e w9 ⟨rfl,mW⟩;rw[mW];clear mW w9;cases ha:cv x.id 1 1000
 .have hz:True:=trivial
  have HV:da (bh p.pure x.toaD=false):=by show bh _ _=false;rw[HE.I];simp[ha]
  exact mt
 have HA:da (cv x.id 1 1000=true):=ha;clear ha;go_wp2_with fail;refine(dx x.RX 1 50 _).mono ?_;rintro e w9 ⟨rfl,mW⟩;rw[mW];clear mW w9;cases hb:cv x.RX 1 50
 .have hz:True:=trivial
  have HV:da (bh p.pure x.toaD=false):=by show bh _ _=false;rw[HE.I];simp[hb]
  exact mt
 have HB:da (cv x.RX 1 50=true):=hb;clear hb;go_wp2_with fail;refine(wQ x.aY x.prog x.bH _ hpl HS.I.2.ops HP.I.prog).mono ?_;rintro e w3 ⟨rfl,hb3⟩;have HP:da (nI w w3 w.heap.size (w.heap.size+1) p x):=HP.I.below hb3;clear hb3 m0 m1 m2 m3 m4 m5 m6 m7 k0 k1 k2 k3 k4 k5 k6 k7 k8 k9 k10 k11;obtain⟨m0,m1,m2,m3,m4,m5,m6,m7⟩:=HP.I.part.cells;obtain⟨k0,k1,k2,k3,k4,k5,k6,k7,k8,k9,k10,k11⟩:=HP.I.proc.cells;cases hc:jm x.prog
 .have hz:True:=trivial
  have HV:da (bh p.pure x.toaD=false):=by show bh _ _=false;rw[HE.I];simp[hc]
  exact mt
 have HC:da (jm x.prog=true):=hc;clear hc;go_wp2_with fail;refine(jC x.held _ hhs).mono ?_;rintro e w9 ⟨rfl,mW⟩;rw[mW];clear mW w9;cases hd:bw x.held
 .have hz:True:=trivial
  have HV:da (bh p.pure x.toaD=false):=by show bh _ _=false;rw[HE.I];simp[hd]
  exact mt
 have HD:da (bw x.held=true):=hd;clear hd;go_wp2_with fail;refine(jC x.got _ hgs).mono ?_;rintro e w9 ⟨rfl,mW⟩;rw[mW];clear mW w9;cases hg:bw x.got
 .have hz:True:=trivial
  have HV:da (bh p.pure x.toaD=false):=by show bh _ _=false;rw[HE.I];simp[hg]
  exact mt
 have HG:da (bw x.got=true):=hg;clear hg;go_wp2_with fail;refine(dx x.code 0 3 _).mono ?_;rintro e w9 ⟨rfl,mW⟩;rw[mW];clear mW w9;cases hk:cv x.code 0 3
 .have hz:True:=trivial
  have HV:da (bh p.pure x.toaD=false):=by show bh _ _=false;rw[HE.I];simp[hk]
  exact mt
 have HK:da (cv x.code 0 3=true):=hk;clear hk;go_wp2_with fail;refine(dx x.Md 0 7 _).mono ?_;rintro e w9 ⟨rfl,mW⟩;rw[mW];clear mW w9;cases hst:cv x.Md 0 7
 .have hz:True:=trivial
  have HV:da (bh p.pure x.toaD=false):=by show bh _ _=false;rw[HE.I];simp[xQ (x:=x.toaD) hst]
  exact mt
 have HST:da (0<=x.Md/\x.Md<=7):=bz.1 hst;clear hst;have HE:da (bh p.pure x.toaD=(bO x.toaD&&fF p.next x.toaD&&dG p.pure x.toaD)):=by show bh _ _=_;rw[HE.I,HA.I,HB.I,HC.I,HD.I,HG.I,HK.I];simp
 by_cases hs0:x.Md=0
 .have e0:(x.Md==0)=true:=by simp[hs0]
  have HE:da (bh p.pure x.toaD=(decide (x.pc=0)&&decide (x.left=0)&&decide (x.Mg=0)&&decide (x.on=0)&&decide (x.RU=0)&&bI x.held)):=by show bh _ _=_;rw[HE.I];simp[bO,fF,dG,hs0]
  clear hs0;by_cases g0:x.pc=0;rotate_left
  .have g0':(x.pc==0)=false:=by simp[g0]
   have HV:da (bh p.pure x.toaD=false):=Zfx
   exact mt
  have g0':(x.pc==0)=true:=by simp[g0]
  have G0:da (x.pc=0):=g0;clear g0;by_cases g1:x.left=0;rotate_left
  .have g1':(x.left==0)=false:=by simp[g1]
   have HV:da (bh p.pure x.toaD=false):=Zfy
   exact mt
  have g1':(x.left==0)=true:=by simp[g1]
  have G1:da (x.left=0):=g1;clear g1;by_cases g2:x.Mg=0;rotate_left
  .have g2':(x.Mg==0)=false:=by simp[g2]
   have HV:da (bh p.pure x.toaD=false):=by show bh _ _=false;rw[HE.I];simp[g2]
   exact mt
  have g2':(x.Mg==0)=true:=by simp[g2]
  have G2:da (x.Mg=0):=g2;clear g2;by_cases g3:x.on=0;rotate_left
  .have g3':(x.on==0)=false:=by simp[g3]
   have HV:da (bh p.pure x.toaD=false):=by show bh _ _=false;rw[HE.I];simp[g3]
   exact mt
  have g3':(x.on==0)=true:=by simp[g3]
  have G3:da (x.on=0):=g3;clear g3;by_cases g4:x.held.toList=[]
  rotate_left
  .have g4':¬[]=x.held.toList:=λh=>g4 h.symm
   have HV:da (bh p.pure x.toaD=false):=Zfl
   exact mt
  by_cases g5:x.RU=0;rotate_left
  .have g5':(x.RU==0)=false:=by simp[g5]
   have HV:da (bh p.pure x.toaD=false):=by show bh _ _=false;rw[HE.I];simp[g5]
   exact mt
  have g5':(x.RU==0)=true:=by simp[g5]
  have HV:da (bh p.pure x.toaD=true):=by show bh _ _=true;rw[HE.I];simp[G0.I,G1.I,G2.I,G3.I,g5,p9 g4]
  exact mt
 have e0:(x.Md==0)=false:=by simp[hs0]
 have HZ:da (¬x.Md=0):=hs0;clear hs0;go_wp2_with fail;refine(dx x.pc 0 ((x.prog.length:Int)-1) _).mono ?_;rintro e w9 ⟨rfl,mW⟩;rw[mW];clear mW w9;have HE:da (bh p.pure x.toaD=(dU x.toaD&&(bO x.toaD&&fF p.next x.toaD&&dG p.pure x.toaD))):=by show bh _ _=_;rw[HE.I];exact GK HZ.I
 cases hop:cv x.pc 0 ((x.prog.length:Int)-1)
 .have hz:dU x.toaD=false:=hop
  exact ZbA
 have tc:da (dU x.toaD=true):=hop;clear hop;go_wp2_with fail;refine(dx x.RU 1 (p.next-1) _).mono ?_;rintro e w9 ⟨rfl,mW⟩;rw[mW];clear mW w9;cases hsi:cv x.RU 1 (p.next-1)
 .have hz:fF p.next x.toaD=false:=by simp[fF,hsi,HZ.I]
  exact ZbA
 have HTU:da (fF p.next x.toaD=true):=by show fF _ _=true;simp[fF,hsi]
 clear hsi;have HE:da (bh p.pure x.toaD=(bO x.toaD&&dG p.pure x.toaD)):=by show bh _ _=_;rw[HE.I,tc.I,HTU.I];simp
 by_cases hs1:x.Md=1
 .have e1:(x.Md==1)=true:=by simp[hs1]
  obtain⟨n,hn,hnl,hno⟩:=xm tc.I;have HLS:da (jJ x.toaD=(decide (x.left=0)||(decide ((opAt x.toaD).1=1)&&cv x.left 1 ((opAt x.toaD).2.1-1)))):=EG HC.I hn hno;have HE:da (bh p.pure x.toaD=(jJ x.toaD&&decide (x.Mg=0)&&decide (x.on=0)&&bI x.held)):=by show bh _ _=_;rw[HE.I];simp[bO,dG,hs1,tc.I]
  have HN1:da ((opAt x.toaD).1=1->1<=(opAt x.toaD).2.1/\(opAt x.toaD).2.1<=1000):=op_ge HC.I hno;obtain⟨g,hg,o0,o1,o2,o3⟩:=Jm HP.I.prog hno;have hsz:w.heap.size+1<w3.heap.size:=(J2.1 HP.I.proc).1;have i0:(0:Int)<=(n:Int):=zw
  have i1:(n:Int)<(x.prog.length:Int):=zw
  rw[hg]at k2;have k4n:w3.cell? ⟨w.heap.size+1,4,n_⟩=o_ (i_ j_ (n:Int)):=by rw[k4];exact congrArg (λz=>o_ (Value.int j_ z)) hn
  clear k4;generalize opAt x.toaD=o at*;clear hs1 hg hn hno;by_cases g0:x.Mg=0;rotate_left
  .have g0':(x.Mg==0)=false:=by simp[g0]
   have HV:da (bh p.pure x.toaD=false):=Zfx
   exact O_
  have g0':(x.Mg==0)=true:=by simp[g0]
  have G0:da (x.Mg=0):=g0;clear g0;by_cases g1:x.on=0;rotate_left
  .have g1':(x.on==0)=false:=by simp[g1]
   have HV:da (bh p.pure x.toaD=false):=Zfy
   exact O_
  have g1':(x.on==0)=true:=by simp[g1]
  have G1:da (x.on=0):=g1;clear g1;by_cases g4:x.held.toList=[]
  rotate_left
  .have g4':¬[]=x.held.toList:=λh=>g4 h.symm
   have HV:da (bh p.pure x.toaD=false):=Zfl
   exact O_
  have HE:da (bh p.pure x.toaD=(decide (x.left=0)||(decide (o.1=1)&&cv x.left 1 (o.2.1-1)))):=by show bh _ _=_;rw[HE.I,HLS.I];simp[G0.I,G1.I,p9 g4]
  by_cases g5:x.left=0
  .have g5':(x.left==0)=true:=by simp[g5]
   have HV:da (bh p.pure x.toaD=true):=by show bh _ _=true;rw[HE.I];simp[g5]
   exact O_
  have g5':(x.left==0)=false:=by simp[g5]
  by_cases g6:o.1=1;rotate_left
  .have g6':(o.1==1)=false:=by simp[g6]
   have HV:da (bh p.pure x.toaD=false):=by show bh _ _=false;rw[HE.I];simp[g5,g6]
   exact O_
  have n1:=(HN1.I g6).1;have n2:=(HN1.I g6).2;have HE:da (bh p.pure x.toaD=cv x.left 1 (o.2.1-1)):=by show bh _ _=_;rw[HE.I];simp[g5,g6]
  have g6':(o.1==1)=true:=by simp[g6]
  clear g6 g5;go_wp2_with(go_at_call 41;refine(dx x.left 1 (o.2.1-1) _).mono ?_;rintro e w9 ⟨rfl,mW⟩;rw[mW];clear mW w9);go_ret;exact⟨al (by rw[HE.I]),HP.I.cd.alloc HP.I.cd.size _⟩
 have e1:(x.Md==1)=false:=by simp[hs1]
 by_cases gl:x.left=0;rotate_left
 .have gl':(x.left==0)=false:=by simp[gl]
  have HSF:da (bO x.toaD=false):=CH HZ.I hs1 gl;exact Zbz
 have gl':(x.left !=0)=false:=by simp[gl]
 have En:da (x.left=0):=gl;clear gl;by_cases hs5:x.Md=5
 .have e5:(x.Md !=5)=false:=by simp[hs5]
  have e2:(x.Md==2)=false:=by simp[hs5]
  have HE:da (bh p.pure x.toaD=(lh x.Mg&&hasB p.pure x.Md x.on)):=by show bh _ _=_;rw[HE.I];simp[bO,dG,hs5,tc.I,En.I]
  clear hs5;exact i8
 have e5:(x.Md !=5)=true:=by simp[hs5]
 by_cases g4:x.held.toList=[]
 rotate_left
 .have g4':¬[]=x.held.toList:=λh=>g4 h.symm
  have g4n:x.held.toList.isEmpty=false:=by simp[g4]
  have HSF:da (bO x.toaD=false):=C3 HZ.I hs1 hs5 (sf g4);exact Zbz
 have HH0:da (bI x.held=true):=p9 g4;by_cases hs2:x.Md=2
 .have e2:(x.Md==2)=true:=by simp[hs2]
  have HE:da (bh p.pure x.toaD=(cv x.Mg 1 2000000000&&decide (x.on=0))):=by show bh _ _=_;rw[HE.I];simp[bO,dG,hs2,tc.I,En.I,HH0.I]
  clear hs2;by_cases go:x.on=0;rotate_left
  .have go':(x.on==0)=false:=by simp[go]
   have HV:da (bh p.pure x.toaD=false):=by show bh _ _=false;rw[HE.I];simp[go]
   exact mt
  have go':(x.on==0)=true:=by simp[go]
  have HV:da (bh p.pure x.toaD=cv x.Mg 1 2000000000):=by show bh _ _=_;rw[HE.I];simp[go]
  clear HE go;go_wp2_with(go_at_call 41;refine(dx x.Mg 1 2000000000 _).mono ?_;rintro e w9 ⟨rfl,mW⟩;rw[mW];clear mW w9);go_ret;exact⟨al ZeB,HP.I.cd⟩
 have e2:(x.Md==2)=false:=by simp[hs2]
 have HE:da (bh p.pure x.toaD=(lh x.Mg&&hasB p.pure x.Md x.on)):=by show bh _ _=_;rw[HE.I];exact Dn HZ.I hs1 hs2 hs5 HST.I tc.I En.I HH0.I
 clear hs1 hs2 hs5;exact i8
end Go.Proofs.YtckenjkcmajicaaGreat

namespace Go.Proofs.YtckenjkcmajicaaGreat
open Go.Maps
def sU {α:Type}(c:Nat)(f:α->α)(l:List (α×Nat)):List (α×Nat):=l.map λp=>if p.2=c then(f p.1,p.2)else p
section
variable {α:Type}{vs:α->Array Value}{num:α->Int}{T:TypeId}
def qb (c:Nat)(f:α->α)(l:List (α×Nat)):(sU c f l).map (·.2)=l.map (·.2):=by
 simp only[sU,Lv];refine Lw λp _=>?_
 simp only[Function.comp]
 split<;>rfl
def Al {c:Nat}{f:α->α}{l:List (α×Nat)}(h:∀p∈l,p.2=c->num (f p.1)=num p.1):RW num (sU c f l)=RW num l:=by
 simp only[RW,sU,Lv];refine Lw λp hp=>?_
 simp only[Function.comp]
 split
 .rename_i e
  simp only[h p hp e]
 .rfl
def yy {c:Nat}{f:α->α}{l:List (α×Nat)}{p:α×Nat}:p∈sU c f l↔ ∃q∈l,(if q.2=c then(f q.1,q.2)else q)=p:=by simp only[sU,Lr]
def ke {c:Nat}{f:α->α}{l:List (α×Nat)}{p:α×Nat}(h:¬p.2=c):p∈sU c f l↔p∈l:=by
 rw[yy];constructor
 .rintro ⟨q,hq,rfl⟩
  split at h
  .rename_i e;exact absurd e h
  .rename_i e;rw[if_neg e];exact hq
 .intro hp
  exact⟨p,hp,if_neg h⟩
def lI {c:Nat}{f:α->α}{l:List (α×Nat)}{p:α×Nat}(h:p.2=c):p∈sU c f l↔ ∃q∈l,q.2=c/\p=(f q.1,q.2):=by
 rw[yy];constructor
 .rintro ⟨q,hq,rfl⟩
  by_cases e:q.2=c
  .exact ⟨q,hq,e,by rw[if_pos e]⟩
  .rw [if_neg e]at h;exact absurd h e
 .rintro ⟨q,hq,e,rfl⟩
  exact⟨q,hq,if_pos e⟩
def Shelf.sU {w w':World}{bj b c:Nat}{l:List (α×Nat)}{f:α->α}(h:Shelf vs num T w bj b l)(hn:∀p∈l,p.2=c->num (f p.1)=num p.1)(hc:∀p∈l,p.2=c->w'.heap[c]? =some (.cells (vs (f p.1)) T (0,0)))
  (hb:w'.heap[b]? =w.heap[b]?)(hs:∀g∈l.map (·.2),¬g=c->w'.heap[g]? =w.heap[g]?):Shelf vs num T w' bj b (YtckenjkcmajicaaGreat.sU c f l):=by
 refine⟨?_,λp hp=>?_,?_,?_⟩
 .rw [Al hn]
  exact h.map.same hb
 .by_cases e:p.2=c
  .obtain ⟨q,hq,Hv,rfl⟩:=(lI e).1 hp
   have:=hc q hq Hv
   rw[<-Hv]at this;exact this
  .have hp':=(ke e).1 hp
   exact(hs p.2 (Lr.2 ⟨p,hp',rfl⟩) e).trans (h.box p hp')
 .rw [qb];exact h.nodup
 .rw [qb];exact h.low
def Shelf.one {w:World}{bj b:Nat}{l:List (α×Nat)}(h:Shelf vs num T w bj b l){p p':α×Nat}(hp:p∈l)(hp':p'∈l)(e:p.2=p'.2):p=p':=by
 have hn:=(Lp.1 h.nodup).2;clear h
 induction l with
 |nil=>exact ZfO
 |cons y r ih=>
  rw[Lt,Lp]at hn;rcases Kt.1 hp with rfl|h1
  .rcases Kt.1 hp' with rfl|h2
   .rfl
   .exact absurd (Lr.2 ⟨p',h2,e.symm⟩) hn.1
  .rcases Kt.1 hp' with rfl|h2
   .exact absurd (Lr.2 ⟨p,h1,e⟩) hn.1
   .exact ih h1 h2 hn.2
def Shelf.ne {w:World}{bj b:Nat}{l:List (α×Nat)}(h:Shelf vs num T w bj b l){p:α×Nat}(hp:p∈l):¬p.2=b:=λe=>
 (Lp.1 h.nodup).1 (Lr.2 ⟨p,hp,e⟩)
end
def br {P:Program}(w:World){ops:Array Oper}{rest:List Oper}{o:Oper}{a:Act}{Q:Exit->Act->World->Prop}(hgd:o.guard=none)(s x:Operand)(t:TypeId)
  (ho:o.op=.call {callee:=.builtin .append,args:=#[s,x],argTypes:=#[t,t]})(v u r:Value)(w':World)(hs:a.eval s=v)(hx:a.eval x=u)(hr:(Builtin.append_ #[t,t] o.type #[v,u]).run P w=.ok r w')
  (h:wpList P ops Q rest (a.put o.dst r) w'):wpList P ops Q (o::rest) a w:=by
 refine wpList_plain hgd λK hK=>?_
 unfold Oper.wp execOp;simp only[ho,resolve,invoke,builtin,QR,Sem.run_pure,Result.andThen_ok,List.map_toArray,Lt,QV,hs,hx,hr];exact hK _ _ h
structure gd (α:Type) where
 vs:α->Array Value
 num:α->Int
 T:TypeId
 e:TypeId
 size:Nat
 ad:α->Option Addr
 cap:α->Nat
 len:α->Nat
 flat:α->List Value
 set:α->Option Addr->Nat->α
 yE:∀x a c,num (set x a c)=num x
 Jd:∀x a c,len (set x a c)=len x
 Hl:∀x a c,flat (set x a c)=flat x
 arQ:∀x a c,ad (set x a c)=a
 Iu:∀x a c,cap (set x a c)=c
 set_set:∀x a c a' c',set (set x a c) a' c'=set x a' c'
section
variable {α:Type}(N:gd α)
def gd.bt (x:α):Option Nat:=(N.ad x).map (·.block)
def gd.cO (w:World)(bj:Nat)(x:α):Prop:=w.ownsRow bj N.e N.size (.slice (N.ad x) (N.len x) (N.cap x)) (N.len x) (N.flat x)
variable {N}
def gd.cO.same {w w':World}{bj:Nat}{x:α}(h:N.cO w bj x)(hs:∀g,N.bt x=some g->w'.heap[g]? =w.heap[g]?):N.cO w' bj x:=by
 obtain⟨hl,h2⟩:=h;refine⟨hl,?_⟩;rcases h2 with h2|⟨g,cap,cur,hv,hb,hg,r⟩
 .exact .inl h2
 .have hk:N.bt x=some g:=by
   simp only[LD]at hv;simp[gd.bt,hv.1]
  exact .inr ⟨g,cap,cur,hv,hb,(hs g hk).trans hg,r⟩
def gd.cO.lt {w:World}{bj:Nat}{x:α}(h:N.cO w bj x){g:Nat}(hk:N.bt x=some g):bj<=g/\g<w.heap.size:=by
 rcases h.2 with⟨hv,-⟩|⟨g',cap,cur,hv,hb,hg,r⟩
 .simp only[LD]at hv
  simp[gd.bt,hv.1]at hk
 .simp only[LD]at hv
  simp only[gd.bt,hv.1,J9,LF]at hk;subst hk;exact⟨hb,(J2.1 hg).1⟩
def gd.cO.low {w:World}{bj base':Nat}{x:α}(h:N.cO w bj x)(hb:base'<=bj):N.cO w base' x:=cq h hb
def gd.cO.row {w:World}{bj:Nat}{x:α}(h:N.cO w bj x):Row w (N.ad x) (N.flat x):=by
 obtain⟨a,cap,e,hr⟩:=cr h;simp only[LD]at e;rw[e.1];exact hr
def gd.rJ {w:World}{bj:Nat}{x:α}{a:Option Addr}{c:Nat}(h:w.ownsRow bj N.e N.size (.slice a (N.len x) c) (N.len x) (N.flat x)):N.cO w bj (N.set x a c):=by
 unfold gd.cO;rw[N.arQ,N.Jd,N.Iu,N.Hl];exact h
variable (N)in
structure fS (w0 wr:World)(bj b:Nat)(l l':List (α×Nat))(left:Lit->Bool):Prop where
 eh:Shelf N.vs N.num N.T wr bj b l'
 alike:l'.map (λp=>(N.set p.1 none 0,p.2))=l.map (λp=>(N.set p.1 none 0,p.2))
 own:∀p∈l',left (.int .i64 (N.num p.1))=false->N.cO wr w0.heap.size p.1
 old:∀p∈l',left (.int .i64 (N.num p.1))=true->p∈l
 apart:∀p∈l',∀p'∈l',left (.int .i64 (N.num p.1))=false->left (.int .i64 (N.num p'.1))=false->∀g,N.bt p.1=some g->N.bt p'.1=some g->p.2=p'.2
 os:wr.os=w0.os
 tape:wr.tape=w0.tape
 output:wr.output=w0.output
 size:w0.heap.size<=wr.heap.size
 same:∀g,g<w0.heap.size->g∉l.map (·.2)->wr.heap[g]? =w0.heap[g]?
def IU (m:df){p:Int×Nat}(hp:p∈m):Maps.has (gA m) (.int .i64 p.1)=true:=by
 show(m.map nM).any (λq=>q.1.sameKey (.int .i64 p.1))=true
 rw[List.any_eq_true];refine⟨nM p,Lr.2 ⟨p,hp,rfl⟩,?_⟩
 have:(nM p).1.sameKey (.int .i64 p.1)=(p.1==p.1):=kH _ _
 rw[this];simp
def fS.start {w0 w1:World}{bj b:Nat}{l:List (α×Nat)}(h:Shelf N.vs N.num N.T w0 bj b l)(hg:w0.grownBy w1 none):fS N w0 w1 bj b l l (Maps.has (gA (RW N.num l))):=by
 have hk:∀p∈l,Maps.has (gA (RW N.num l)) (.int .i64 (N.num p.1))=true:=λp hp=>IU (RW N.num l) (p:=(N.num p.1,p.2)) (Lr.2 ⟨p,hp,rfl⟩)
 refine⟨h.same λg hg'=>hg.block g (h.lt g hg') zy,rfl,λp hp e=>?_,λp hp _=>hp,λp hp p' _ e=>?_,hg.os,hg.tape,hg.output,hg.size,λg hg' _=>hg.block g hg' zy⟩
 .rw [hk p hp]at e;cases e
 .rw [hk p hp]at e;cases e
def fS.next {w0 wr w2:World}{bj b r:Nat}{l l':List (α×Nat)}{left:Lit->Bool}(h:fS N w0 wr bj b l l' left)(hg:wr.grownBy w2 (some r))(hl:∀g∈b::l.map (·.2),g<w0.heap.size)(hr:w0.heap.size<=r)(iH:∀p∈l',left (.int .i64 (N.num p.1))=false->¬N.bt p.1=some r):fS N w0 w2 bj b l l' left:=by
 have hbl:l'.map (·.2)=l.map (·.2):=by
  have:=congrArg (List.map (·.2)) h.alike
  exact Y_
 refine⟨h.eh.same λg hg'=>hg.block g (h.eh.lt g hg') (λe=>?_),h.alike,λp hp e=>(h.own p hp e).same λg hk=>hg.block g ((h.own p hp e).lt hk).2 (λe'=>iH p hp e (by rw[hk];exact e')),h.old,h.apart,hg.os.trans h.os,hg.tape.trans h.tape,hg.output.trans h.output,LG h.size hg.size,λg hg' hn=>(hg.block g (Kn hg' h.size) (λe=>?_)).trans (h.same g hg' hn)⟩
 .rw [hbl]at hg'
  have:=hl g hg'
  have:=KC e
  omega
 .have:=KC e
  omega
def fS.Mc {w0 wr:World}{bj b:Nat}{l l':List (α×Nat)}{left:Lit->Bool}(h:fS N w0 wr bj b l l' left):l'.map (·.2)=l.map (·.2):=by
 have:=congrArg (List.map (·.2)) h.alike
 exact Y_
def fS.keys {w0 wr:World}{bj b:Nat}{l l':List (α×Nat)}{left:Lit->Bool}(h:fS N w0 wr bj b l l' left):RW N.num l'=RW N.num l:=by
 have:=congrArg (List.map (λp=>(N.num p.1,p.2))) h.alike
 simp only[Lv,Ls,N.yE]at this;exact this
def fS.step {w0 wr w3 w4:World}{bj b:Nat}{l l':List (α×Nat)}{left:Lit->Bool}{p:α×Nat}{a:Option Addr}{cap:Nat}(h:fS N w0 wr bj b l l' left)(hl:∀g∈b::l.map (·.2),g<w0.heap.size)(hp:p∈l')
  (ho:w3.ownsRow wr.heap.size N.e N.size (.slice a (N.len p.1) cap) (N.len p.1) (N.flat p.1))(hg:wr.grownBy w3 none)(hc:w4.heap[p.2]? =some (.cells (N.vs (N.set p.1 a cap)) N.T (0,0)))(hs:∀g,¬g=p.2->w4.heap[g]? =w3.heap[g]?)
  (h1:w4.os=w3.os)(h2:w4.tape=w3.tape)(h3:w4.output=w3.output)(h4:w4.heap.size=w3.heap.size):
  fS N w0 w4 bj b l (sU p.2 (λx=>N.set x a cap) l') (λz=>left z&& !z.sameKey (.int .i64 (N.num p.1))):=by
 have hpl:p.2∈l.map (·.2):=Zfs
 have hlt:p.2<w0.heap.size:=hl p.2 (LB _ hpl);have hone:∀q∈l',q.2=p.2->q=p:=λq hq e=>h.eh.one hq hp e
 have hcell: ∀ q∈l',¬ q.2=p.2-> ¬ N.num q.1=N.num p.1:=fun q hq hne e=>hne (by
  have hr:=h.eh.map.2;have a1:=jI hr (p:=(N.num q.1,q.2)) (Lr.2 ⟨q,hq,rfl⟩);have a2:=jI hr (p:=(N.num p.1,p.2)) (Lr.2 ⟨p,hp,rfl⟩);simp only[e]at a1;rw[a1]at a2;exact KC a2)
 have hleft:∀q∈l',¬q.2=p.2->(left (.int .i64 (N.num q.1))&& !(Lit.int .i64 (N.num q.1)).sameKey (.int .i64 (N.num p.1)))=left (.int .i64 (N.num q.1)):=λq hq hne=>by
  rw[kH];simp[hcell q hq hne]
 have la:N.cO w3 wr.heap.size (N.set p.1 a cap):=gd.rJ ho;have hblk:∀g,g<wr.heap.size->¬g=p.2->w4.heap[g]? =wr.heap[g]?:=λg hg' hne=>(hs g hne).trans (hg.block g hg' zy)
 have hkp:∀q∈l',left (.int .i64 (N.num q.1))=false->∀g,N.bt q.1=some g->¬g=p.2:=λq hq e g hk e'=>by
  have:=((h.own q hq e).lt hk).1
  omega
 refine⟨?_,?_,λq hq e=>?_,λq hq e=>?_,λq hq q' hq' e e' g hk hk'=>?_,h1.trans (hg.os.trans h.os),h2.trans (hg.tape.trans h.tape),h3.trans (hg.output.trans h.output),by rw[h4];exact LG h.size hg.size,λg hg' hn=>?_⟩
 .refine h.eh.sU (λq _ _=>N.yE _ _ _) (λq hq e=>?_) ?_ λg hg' hne=>hblk g (h.eh.lt g (LB _ hg')) hne
  .rw [hone q hq e];exact hc
  .exact hblk b h.eh.map.lt (λe=>h.eh.ne hp e.symm)
 .rw [<-h.alike]
  simp only[sU,Lv];refine Lw λq _=>?_
  simp only[Function.comp]
  split
  .simp only[N.set_set]
  .rfl
 .by_cases e0:q.2=p.2
  .obtain ⟨q0,nu,hq1,rfl⟩:=(lI e0).1 hq
   rw[hone q0 nu hq1];refine(la.low h.size).same λg hk=>hs g (λe'=>?_)
   have:=(la.lt hk).1
   have:=h.size
   omega
  .have nu:=(ke e0).1 hq
   rw[hleft q nu e0]at e;exact(h.own q nu e).same λg hk=>hblk g ((h.own q nu e).lt hk).2 (hkp q nu e g hk)
 .by_cases e0:q.2=p.2
  .obtain ⟨q0,nu,hq1,rfl⟩:=(lI e0).1 hq
   rw[hone q0 nu hq1]at e;simp only[N.yE]at e;rw[kH]at e;simp at e
  .have nu:=(ke e0).1 hq
   rw[hleft q nu e0]at e;exact h.old q nu e
 .by_cases e0:q.2=p.2
  .by_cases e1:q'.2=p.2
   .rw [e0,e1]
   .obtain ⟨q0,nu,hq1,rfl⟩:=(lI e0).1 hq
    have pv:=(ke e1).1 hq';rw[hleft q' pv e1]at e';rw[hone q0 nu hq1]at hk
    have:=((h.own q' pv e').lt hk').2
    have:=(la.lt hk).1
    omega
  .have nu:=(ke e0).1 hq
   rw[hleft q nu e0]at e;by_cases e1:q'.2=p.2
   .obtain ⟨q2,pv,IJ,rfl⟩:=(lI e1).1 hq'
    rw[hone q2 pv IJ]at hk'
    have:=((h.own q nu e).lt hk).2
    have:=(la.lt hk').1
    omega
   .have pv:=(ke e1).1 hq'
    rw[hleft q' pv e1]at e';exact h.apart q nu q' pv e e' g hk hk'
 .have hne:¬g=p.2:=λe=>hn (by rw[e];exact hpl)
  exact(hblk g (Kn hg' h.size) hne).trans (h.same g hg' hn)
def wz (w:World)(c i:Nat)(v:Value):w.grownBy (w.setCell ⟨c,i,none⟩ v) (some c):=
 ⟨rfl,rfl,rfl,by simp[World.setCell],λk _ hne=>K6 w _ v k (λe=>hne (by rw[e]))⟩
def fS.pick {w0 wr:World}{bj b c:Nat}{l l':List (α×Nat)}{left:Lit->Bool}{x:Int}{kl:Lit}{y:DataW Unit×List MemPlace}(h:fS N w0 wr bj b l l' left)(hkey:keyOf J3 2 (.int .i64 x)=some kl)(hv:od (dt c)=some y)
  (hat:∀zd,(gA (RW N.num l)).atKey kl zd=y.1):∃p∈l',N.num p.1=x/\p.2=c/\kl=.int .i64 x:=by
 obtain⟨x',e,rfl,-⟩:=RB Tryz.underlying2 hkey;cases e;obtain⟨g,e,rfl⟩:=oI hv;have e:g=c:=by
  simp only[dt,Value.pointer.injEq,LF,aeS]at e;exact e.1.symm
 subst e;have h1:=hat .nil;rw[pk]at h1;cases hl:cz (RW N.num l) x with
 |none=>rw[hl]at h1;cases h1
 |some g'=>
  rw[hl]at h1;simp only[QZ,Q0,Int.natCast_inj,true_and]at h1;subst h1;have hm:=yu hl;rw[<-h.keys]at hm;obtain⟨p,hp,e⟩:=Lr.1 hm;simp only[Kx]at e;exact⟨p,hp,e.1,e.2,rfl⟩
def fS.ju {w0 wr w2 w3:World}{bj b r n cnt cnt' i:Nat}{l l':List (α×Nat)}{left:Lit->Bool}{D:DataW Unit}{p:α×Nat}{a:Option Addr}{cap:Nat}(h:fS N w0 wr bj b l l' left)(hrg:wr.ranges J3 2 od b r n D left cnt)
  (hgr:wr.grownBy w2 (some r))(hrg2:w2.ranges J3 2 od b r n D (λz=>left z&& !z.sameKey (.int .i64 (N.num p.1))) cnt')(hl:∀g∈b::l.map (·.2),g<w0.heap.size)(hr:w0.heap.size<=r)(hp:p∈l')
  (ho:w3.ownsRow w2.heap.size N.e N.size (.slice a (N.len p.1) cap) (N.len p.1) (N.flat p.1))(hg:w2.grownBy w3 none)(hvs:(N.vs p.1).setIfInBounds i (.slice a (N.len p.1) cap)=N.vs (N.set p.1 a cap)):
  fS N w0 (w3.setCell ⟨p.2,i,none⟩ (.slice a (N.len p.1) cap)) bj b l (sU p.2 (λx=>N.set x a cap) l') (λz=>left z&& !z.sameKey (.int .i64 (N.num p.1)))/\
   (w3.setCell ⟨p.2,i,none⟩ (.slice a (N.len p.1) cap)).ranges J3 2 od b r n D (λz=>left z&& !z.sameKey (.int .i64 (N.num p.1))) cnt':=by
 have hpl:p.2∈l.map (·.2):=Zfs
 have hlt:p.2<w0.heap.size:=hl p.2 (LB _ hpl);have h2:fS N w0 w2 bj b l l' left:=h.next hgr hl hr λq hq e hk=>by
  obtain⟨es,clock,RU,seen,c0,_,_,_,_,hit,_⟩:=hrg;rcases(h.own q hq e).2 with⟨hv,-⟩|⟨g',cap',cur,hv,hb,hg',-⟩
  .simp only[LD]at hv
   simp[gd.bt,hv.1]at hk
  .simp only[LD]at hv
   simp only[gd.bt,hv.1,J9,LF]at hk;subst hk;rw[hit]at hg';cases hg'
 have lD:=(hg.block p.2 (Kn hlt h2.size) zy).trans (h2.eh.box p hp);have hc:=K7 w3 p.2 i _ _ (.slice a (N.len p.1) cap) lD;rw[hvs]at hc;refine⟨h2.step hl hp ho hg hc (λg hne=>K6 w3 _ _ g hne) rfl rfl rfl (by simp[World.setCell]),?_⟩;refine(hrg2.kept hg zy zy).kept (wz w3 p.2 i _) (λe=>?_) (λe=>?_)
 .exact h2.eh.ne hp (KC e).symm
 .have:=KC e
  omega
def kids (N:gd α)(l:List (α×Nat)):List Nat:=l.filterMap λp=>N.bt p.1
def fS.nodup {w0 wr:World}{bj b:Nat}{l l':List (α×Nat)}{left:Lit->Bool}(h:fS N w0 wr bj b l l' left)(hd:∀kl,left kl=false):(kids N l').Nodup:=by
 have hn:=(Lp.1 h.eh.nodup).2;have ha:=h.apart;clear h
 induction l' with
 |nil=>exact List.nodup_nil
 |cons y r ih=>
  rw[Lt,Lp]at hn;have ihr:=ih hn.2 (λp hp p' hp'=>ha p (LB _ hp) p' (LB _ hp'));unfold kids at ihr⊢;rw[List.filterMap_cons]
  split
  .exact ihr
  .rename_i g hg
   refine Lp.2 ⟨λhm=>?_,ihr⟩;obtain⟨p,hp,hk⟩:=Lq.1 hm;exact hn.1 (Lr.2 ⟨p,hp,(ha y zy p ZeC (hd _) (hd _) g hg hk).symm⟩)
end
end Go.Proofs.YtckenjkcmajicaaGreat

namespace Go.Proofs.YtckenjkcmajicaaGreat
attribute [local go_sem ↓] Kc Kd
def cI (x:az):Array v_:=#[i_ j_ x.id,b_ x.shown,t_ x.text]
def gX (_:w_)(x:az):Prop:=x.text.size<=1048576
def gX.below {w w':w_}{x:az}(h:gX w x)(_:B_ w.heap.size w w'):gX w' x:=h
def kJ {W:w_}{X:Nat}{x:az}(h:W.heap[X]? =o_ (c_ (cI x) 134)):W.cell? ⟨X,0,n_⟩=o_ (i_ j_ x.id)/\W.cell? ⟨X,1,n_⟩=o_ (b_ x.shown)/\W.cell? ⟨X,2,n_⟩=o_ (t_ x.text):=by
 unfold cI at h;simp[World.cell?,h]
def iq (x:az)(w:w_):k_ J3 236 #[a_ (cI x)] w λe w'=>e=r_ (i_ j_ x.id)/\B_ w.heap.size w w':=by
 unfold cI
 go_enter func236,ntmps236
 exact ro
def nr (v:v_)(w:w_):Sem.run J3 (method 405 134 v "loop.example/g00313/impl.number") w=.ok (236,v) w:=by kernel_rfl
def tq (v:v_)(w:w_):Sem.run J3 (method 405 134 v "loop.example/g00313/impl.right") w=.ok (237,v) w:=by kernel_rfl
def qW (w:w_):(zeroValue 170).run J3 w=.ok (p_ n_) w:=ZbG
def qM (Me:Int)(b:Nat)(m:df)(id:Int)(w:w_)(h:cF w b m)(hw:(Lit.int j_ id).wf=true):
  k_ J3 177 #[a_ #[i_ j_ Me,.map (o_ b)],i_ j_ id] w λe w'=>e=r_ (b_ (cz m id).isSome)/\B_ w.heap.size w w':=by
 have hlk:=(h.below ((Kp _ w).alloc (Ki _) (c_ #[i_ j_ Me,.map (o_ b)] 113))).look underlying111 (qW _) hw true;simp only[if_true]at hlk;clear h hw
 go_enter func177,ntmps177
 exact ro
def wd (x:az)(w:w_)(hf:gX w x):k_ J3 237 #[a_ (cI x)] w λe w'=>e=r_ (b_ (cU x))/\B_ w.heap.size w w':=by
 have HF:da (gX w x):=hf;clear hf;unfold cI;obtain⟨id,shown,text⟩:=x;cases hp:bw text with
 |false=>
  have HP:da (bw text=false):=hp;clear hp
  go_enter func237,ntmps237
  go_wp2_with fail;refine(iM text _ HF.I).mono ?_;rintro e w1 ⟨rfl,hw1⟩;rw[HP.I];subst hw1;go_wp2;go_ret;exact⟨al (by simp[cU,HP.I]),(Kp _ _).alloc (Ki _) _⟩
 |true=>
  have HP:da (bw text=true):=hp;clear hp;by_cases hes:text.toList=[]
  all_goals
   have hes':([]=text.toList)=(text.toList=[]):=propext ⟨λh=>h.symm,λh=>h.symm⟩;cases shown
  all_goals
   go_enter func237,ntmps237
   go_wp2_with fail;refine(iM text _ HF.I).mono ?_;rintro e w1 ⟨rfl,hw1⟩;rw[HP.I];subst hw1;go_wp2;go_ret;exact⟨al (by simp[cU,HP.I,bI,hes]),(Kp _ _).alloc (Ki _) _⟩
end Go.Proofs.YtckenjkcmajicaaGreat

namespace Go.Proofs.YtckenjkcmajicaaGreat
attribute [local go_sem ↓] Kc Kd
def eH (x:bD):Array v_:=#[i_ j_ x.id,i_ j_ x.n,i_ j_ x.max]
def kU (_:w_)(_:bD):Prop:=True
def kU.below {w w':w_}{x:bD}(_:kU w x)(_:B_ w.heap.size w w'):kU w' x:=trivial
def gm {W:w_}{X:Nat}{x:bD}(h:W.heap[X]? =o_ (c_ (eH x) 128)):W.cell? ⟨X,0,n_⟩=o_ (i_ j_ x.id)/\W.cell? ⟨X,1,n_⟩=o_ (i_ j_ x.n)/\W.cell? ⟨X,2,n_⟩=o_ (i_ j_ x.max):=by
 unfold eH at h;simp[World.cell?,h]
def jv (x:bD)(w:w_):k_ J3 230 #[a_ (eH x)] w λe w'=>e=r_ (i_ j_ x.id)/\B_ w.heap.size w w':=by
 unfold eH
 go_enter func230,ntmps230
 exact ro
def pb (v:v_)(w:w_):Sem.run J3 (method 405 128 v "loop.example/g00313/impl.number") w=.ok (230,v) w:=by kernel_rfl
def wW (v:v_)(w:w_):Sem.run J3 (method 405 128 v "loop.example/g00313/impl.right") w=.ok (231,v) w:=by kernel_rfl
def vU (w:w_):(zeroValue 164).run J3 w=.ok (p_ n_) w:=ZbG
def tZ (Me:Int)(b:Nat)(m:df)(id:Int)(w:w_)(h:cF w b m)(hw:(Lit.int j_ id).wf=true):
  k_ J3 175 #[a_ #[i_ j_ Me,.map (o_ b)],i_ j_ id] w λe w'=>e=r_ (b_ (cz m id).isSome)/\B_ w.heap.size w w':=by
 have hlk:=(h.below ((Kp _ w).alloc (Ki _) (c_ #[i_ j_ Me,.map (o_ b)] 107))).look underlying105 (vU _) hw true;simp only[if_true]at hlk;clear h hw
 go_enter func175,ntmps175
 exact ro
def ye (x:bD)(w:w_)(_:kU w x):k_ J3 231 #[a_ (eH x)] w λe w'=>e=r_ (b_ (gw x))/\B_ w.heap.size w w':=by
 unfold eH;by_cases h1:1<=x.max
 .by_cases h2:x.max<=1000
  .by_cases h3:0<=x.n
   .by_cases h4:x.n<=x.max
    all_goals
     go_enter func231,ntmps231
     go_wp2;go_ret;exact⟨al (by simp[gw,cv, *]<;>omega),(Kp _ _).alloc (Ki _) _⟩
   .exact X_
  .exact X_
 .exact X_
end Go.Proofs.YtckenjkcmajicaaGreat

namespace Go.Proofs.YtckenjkcmajicaaGreat
attribute [local go_sem ↓] Kc Kd
def bQ (x:au):Array v_:=#[i_ j_ x.id,i_ j_ x.max,s_ x.ak x.Ma.length x.aq]
def fM (w:w_)(x:au):Prop:=fT w x.ak x.Ma
def fM.below {w w':w_}{x:au}(h:fM w x)(hb:B_ w.heap.size w w'):fM w' x:=fT.below h hb
def ia {W:w_}{X:Nat}{x:au}(h:W.heap[X]? =o_ (c_ (bQ x) 137)):W.cell? ⟨X,0,n_⟩=o_ (i_ j_ x.id)/\W.cell? ⟨X,1,n_⟩=o_ (i_ j_ x.max)/\W.cell? ⟨X,2,n_⟩=o_ (s_ x.ak x.Ma.length x.aq):=by
 unfold bQ at h;simp[World.cell?,h]
def gP (x:au)(w:w_):k_ J3 239 #[a_ (bQ x)] w λe w'=>e=r_ (i_ j_ x.id)/\B_ w.heap.size w w':=by
 unfold bQ
 go_enter func239,ntmps239
 exact ro
def mc (v:v_)(w:w_):Sem.run J3 (method 405 137 v "loop.example/g00313/impl.number") w=.ok (239,v) w:=by kernel_rfl
def se (v:v_)(w:w_):Sem.run J3 (method 405 137 v "loop.example/g00313/impl.right") w=.ok (240,v) w:=by kernel_rfl
def pS (w:w_):(zeroValue 173).run J3 w=.ok (p_ n_) w:=ZbG
def mE (Me:Int)(b:Nat)(m:df)(id:Int)(w:w_)(h:cF w b m)(hw:(Lit.int j_ id).wf=true):
  k_ J3 178 #[a_ #[i_ j_ Me,.map (o_ b)],i_ j_ id] w λe w'=>e=r_ (b_ (cz m id).isSome)/\B_ w.heap.size w w':=by
 have hlk:=(h.below ((Kp _ w).alloc (Ki _) (c_ #[i_ j_ Me,.map (o_ b)] 116))).look underlying114 (pS _) hw true;simp only[if_true]at hlk;clear h hw
 go_enter func178,ntmps178
 exact ro
def Sr (x:au)(w:w_)(hf:fM w x):k_ J3 240 #[a_ (bQ x)] w λe w'=>e=r_ (b_ (ct x.toci))/\B_ w.heap.size w w':=by
 have HF:da (fM w x):=hf;clear hf;unfold bQ
 go_enter func240,ntmps240
 go_wp2_with fail;refine(oy x.ak x.Ma x.aq x.max _ (fT.below HF.I ((Kp _ _).alloc (Ki _) _))).mono ?_;rintro e w1 ⟨rfl,hw1⟩;subst hw1;exact ro
end Go.Proofs.YtckenjkcmajicaaGreat

namespace Go.Proofs.YtckenjkcmajicaaGreat
attribute [local go_sem ↓] Kc Kd
def cG (x:aB):Array v_:=#[i_ j_ x.id,b_ x.up]
def ix (_:w_)(_:aB):Prop:=True
def ix.below {w w':w_}{x:aB}(_:ix w x)(_:B_ w.heap.size w w'):ix w' x:=trivial
def kF {W:w_}{X:Nat}{x:aB}(h:W.heap[X]? =o_ (c_ (cG x) 131)):W.cell? ⟨X,0,n_⟩=o_ (i_ j_ x.id)/\W.cell? ⟨X,1,n_⟩=o_ (b_ x.up):=by
 unfold cG at h;simp[World.cell?,h]
def iw (x:aB)(w:w_):k_ J3 233 #[a_ (cG x)] w λe w'=>e=r_ (i_ j_ x.id)/\B_ w.heap.size w w':=by
 unfold cG
 go_enter func233,ntmps233
 exact ro
def mT (v:v_)(w:w_):Sem.run J3 (method 405 131 v "loop.example/g00313/impl.number") w=.ok (233,v) w:=by kernel_rfl
def tp (v:v_)(w:w_):Sem.run J3 (method 405 131 v "loop.example/g00313/impl.right") w=.ok (234,v) w:=by kernel_rfl
def rE (w:w_):(zeroValue 167).run J3 w=.ok (p_ n_) w:=ZbG
def rj (Me:Int)(b:Nat)(m:df)(id:Int)(w:w_)(h:cF w b m)(hw:(Lit.int j_ id).wf=true):
  k_ J3 176 #[a_ #[i_ j_ Me,.map (o_ b)],i_ j_ id] w λe w'=>e=r_ (b_ (cz m id).isSome)/\B_ w.heap.size w w':=by
 have hlk:=(h.below ((Kp _ w).alloc (Ki _) (c_ #[i_ j_ Me,.map (o_ b)] 110))).look underlying108 (rE _) hw true;simp only[if_true]at hlk;clear h hw
 go_enter func176,ntmps176
 exact ro
def tX (x:aB)(w:w_)(_:ix w x):k_ J3 234 #[a_ (cG x)] w λe w'=>e=r_ (b_ (ey x))/\B_ w.heap.size w w':=by
 unfold cG
 go_enter func234,ntmps234
 exact ro
end Go.Proofs.YtckenjkcmajicaaGreat

namespace Go.Proofs.YtckenjkcmajicaaGreat
structure ol where
 id:Int
 next:Int
 bp:Nat
 bs:Nat
 be:Nat
 bb:Nat
 bf:Nat
 bq:Nat
def ol.cells (q:ol):Array v_:=#[i_ j_ q.id,i_ j_ q.next,i_ j_ 6,.map (o_ q.bp),i_ j_ 5,.map (o_ q.bs),i_ j_ 5,.map (o_ q.be),i_ j_ 5,.map (o_ q.bb),i_ j_ 5,.map (o_ q.bf),i_ j_ 5,.map (o_ q.bq)]
def fa (W:w_)(o:Nat)(q:ol):Prop:=W.heap[o]? =o_ (c_ q.cells 121)
def fa.below {W W':w_}{o:Nat}{q:ol}(h:fa W o q)(hb:B_ W.heap.size W W'):fa W' o q:=(hb.block o (J2.1 h).1).trans h
def fa.cell {W:w_}{o:Nat}{q:ol}(h:fa W o q)(i:Nat):W.cell? ⟨o,i,n_⟩=q.cells[i]?:=by
 unfold fa at h;simp[World.cell?,h]
structure fu (w W:w_)(o X:Nat)(q:ol)(x:ao)(ms me mb mf:df):Prop where
 opn:fa W o q
 box:W.heap[X]? =o_ (c_ (aX x) 125)
 ms:cF W q.bs ms
 me:cF W q.be me
 mb:cF W q.bb mb
 mf:cF W q.bf mf
 cd:B_ w.heap.size w W
def fu.below {w W W':w_}{o X:Nat}{q:ol}{x:ao}{ms me mb mf:df}(h:fu w W o X q x ms me mb mf)(hb:B_ W.heap.size W W'):fu w W' o X q x ms me mb mf:=
 ⟨h.opn.below hb,(hb.block _ (J2.1 h.box).1).trans h.box,h.ms.below hb,h.me.below hb,h.mb.below hb,h.mf.below hb,h.cd.trans (hb.mono h.cd.size)⟩
def fu.drew {w W:w_}{o X:Nat}{q:ol}{x:ao}{ms me mb mf:df}(h:fu w W o X q x ms me mb mf):fu w W.drew o X q x ms me mb mf:=h.below (Kp _ _).drew
def fw (ms me mb mf:df)(x:ao):Bool:=
 if x.Md=3 then(cz ms x.on).isSome else if x.Md=4 then(cz me x.on).isSome else if x.Md=5\/x.Md=6 then(cz mf x.on).isSome else if x.Md=7 then(cz mb x.on).isSome else true
end Go.Proofs.YtckenjkcmajicaaGreat

namespace Go.Proofs.YtckenjkcmajicaaGreat
attribute [local go_sem ↓] Kc Kd
def BF {w w':w_}{o X:Nat}{q:ol}{x:ao}{ms me mb mf:df}(h:fu w w' o X q x ms me mb mf):(w'.cell? ⟨o,4,n_⟩=o_ (i_ j_ 5)/\w'.cell? ⟨o,5,n_⟩=o_ (.map (o_ q.bs))/\w'.cell? ⟨X,7,n_⟩=o_ (i_ j_ x.on))/\da (fu w w' o X q x ms me mb mf):=
 ⟨⟨h.opn.cell 4,h.opn.cell 5,(bo h.box).2.2.2.2.2.2.2.1⟩,h⟩
def ER (o X:Nat)(q:ol)(x:ao)(ms me mb mf:df)(w:w_)(h:fu w w o X q x ms me mb mf)(hw:(Lit.int j_ x.on).wf=true)(hs:x.Md=3):
  k_ J3 148 #[p_ (o_ ⟨o,0,n_⟩),p_ (o_ ⟨X,0,n_⟩)] w λe w'=>e=r_ (b_ (fw ms me mb mf x))/\B_ w.heap.size w w':=by
 have H:da (fu w w o X q x ms me mb mf):=h;have HW:da ((Lit.int j_ x.on).wf=true):=hw;have HV:da (fw ms me mb mf x=(cz ms x.on).isSome):=ZcT
 have k3:w.cell? ⟨X,3,n_⟩=o_ (i_ j_ 3):=Zdn
 clear h hw hs
 go_enter func148,ntmps148
 go_wp2_with fail;clear k3;refine aT (λw'=>(w'.cell? ⟨o,4,n_⟩=o_ (i_ j_ 5)/\w'.cell? ⟨o,5,n_⟩=o_ (.map (o_ q.bs))/\w'.cell? ⟨X,7,n_⟩=o_ (i_ j_ x.on))/\da (fu w w' o X q x ms me mb mf)) ZbG (BF H.I.drew) ?_
 iterate 8 (refine PI ?_)
 refine cl (b_ (cz ms x.on).isSome) 175 #[a_ #[i_ j_ 5,.map (o_ q.bs)],i_ j_ x.on] ?_ ?_ ?_
 .exact Zbr
 .intro w0 hS0
  refine(tZ 5 q.bs ms x.on w0 hS0.2.I.ms HW.I).mono ?_;rintro e w2 ⟨rfl,hb2⟩;exact⟨rfl,BF (hS0.2.I.below hb2)⟩
 exact wl
def A5 {w w':w_}{o X:Nat}{q:ol}{x:ao}{ms me mb mf:df}(h:fu w w' o X q x ms me mb mf):(w'.cell? ⟨o,6,n_⟩=o_ (i_ j_ 5)/\w'.cell? ⟨o,7,n_⟩=o_ (.map (o_ q.be))/\w'.cell? ⟨X,7,n_⟩=o_ (i_ j_ x.on))/\da (fu w w' o X q x ms me mb mf):=
 ⟨⟨h.opn.cell 6,h.opn.cell 7,(bo h.box).2.2.2.2.2.2.2.1⟩,h⟩
def EH (o X:Nat)(q:ol)(x:ao)(ms me mb mf:df)(w:w_)(h:fu w w o X q x ms me mb mf)(hw:(Lit.int j_ x.on).wf=true)(hs:x.Md=4):
  k_ J3 148 #[p_ (o_ ⟨o,0,n_⟩),p_ (o_ ⟨X,0,n_⟩)] w λe w'=>e=r_ (b_ (fw ms me mb mf x))/\B_ w.heap.size w w':=by
 have H:da (fu w w o X q x ms me mb mf):=h;have HW:da ((Lit.int j_ x.on).wf=true):=hw;have HV:da (fw ms me mb mf x=(cz me x.on).isSome):=ZcT
 have k3:w.cell? ⟨X,3,n_⟩=o_ (i_ j_ 4):=Zdn
 clear h hw hs
 go_enter func148,ntmps148
 go_wp2_with fail;clear k3;refine aT (λw'=>(w'.cell? ⟨o,6,n_⟩=o_ (i_ j_ 5)/\w'.cell? ⟨o,7,n_⟩=o_ (.map (o_ q.be))/\w'.cell? ⟨X,7,n_⟩=o_ (i_ j_ x.on))/\da (fu w w' o X q x ms me mb mf)) ZbG (A5 H.I.drew) ?_
 iterate 8 (refine PI ?_)
 refine cl (b_ (cz me x.on).isSome) 176 #[a_ #[i_ j_ 5,.map (o_ q.be)],i_ j_ x.on] ?_ ?_ ?_
 .exact Zbr
 .intro w0 hS0
  refine(rj 5 q.be me x.on w0 hS0.2.I.me HW.I).mono ?_;rintro e w2 ⟨rfl,hb2⟩;exact⟨rfl,A5 (hS0.2.I.below hb2)⟩
 exact wl
def AF {w w':w_}{o X:Nat}{q:ol}{x:ao}{ms me mb mf:df}(h:fu w w' o X q x ms me mb mf):(w'.cell? ⟨o,10,n_⟩=o_ (i_ j_ 5)/\w'.cell? ⟨o,11,n_⟩=o_ (.map (o_ q.bf))/\w'.cell? ⟨X,7,n_⟩=o_ (i_ j_ x.on))/\da (fu w w' o X q x ms me mb mf):=
 ⟨⟨h.opn.cell 10,h.opn.cell 11,(bo h.box).2.2.2.2.2.2.2.1⟩,h⟩
def Fu (o X:Nat)(q:ol)(x:ao)(ms me mb mf:df)(w:w_)(h:fu w w o X q x ms me mb mf)(hw:(Lit.int j_ x.on).wf=true)(hs:x.Md=5):
  k_ J3 148 #[p_ (o_ ⟨o,0,n_⟩),p_ (o_ ⟨X,0,n_⟩)] w λe w'=>e=r_ (b_ (fw ms me mb mf x))/\B_ w.heap.size w w':=by
 have H:da (fu w w o X q x ms me mb mf):=h;have HW:da ((Lit.int j_ x.on).wf=true):=hw;have HV:da (fw ms me mb mf x=(cz mf x.on).isSome):=ZcT
 have k3:w.cell? ⟨X,3,n_⟩=o_ (i_ j_ 5):=Zdn
 clear h hw hs
 go_enter func148,ntmps148
 go_wp2_with fail;clear k3;refine aT (λw'=>(w'.cell? ⟨o,10,n_⟩=o_ (i_ j_ 5)/\w'.cell? ⟨o,11,n_⟩=o_ (.map (o_ q.bf))/\w'.cell? ⟨X,7,n_⟩=o_ (i_ j_ x.on))/\da (fu w w' o X q x ms me mb mf)) ZbG (AF H.I.drew) ?_
 iterate 8 (refine PI ?_)
 refine cl (b_ (cz mf x.on).isSome) 178 #[a_ #[i_ j_ 5,.map (o_ q.bf)],i_ j_ x.on] ?_ ?_ ?_
 .exact Zbr
 .intro w0 hS0
  refine(mE 5 q.bf mf x.on w0 hS0.2.I.mf HW.I).mono ?_;rintro e w2 ⟨rfl,hb2⟩;exact⟨rfl,AF (hS0.2.I.below hb2)⟩
 exact wl
def AH {w w':w_}{o X:Nat}{q:ol}{x:ao}{ms me mb mf:df}(h:fu w w' o X q x ms me mb mf):(w'.cell? ⟨o,10,n_⟩=o_ (i_ j_ 5)/\w'.cell? ⟨o,11,n_⟩=o_ (.map (o_ q.bf))/\w'.cell? ⟨X,7,n_⟩=o_ (i_ j_ x.on))/\da (fu w w' o X q x ms me mb mf):=
 ⟨⟨h.opn.cell 10,h.opn.cell 11,(bo h.box).2.2.2.2.2.2.2.1⟩,h⟩
def Ew (o X:Nat)(q:ol)(x:ao)(ms me mb mf:df)(w:w_)(h:fu w w o X q x ms me mb mf)(hw:(Lit.int j_ x.on).wf=true)(hs:x.Md=6):
  k_ J3 148 #[p_ (o_ ⟨o,0,n_⟩),p_ (o_ ⟨X,0,n_⟩)] w λe w'=>e=r_ (b_ (fw ms me mb mf x))/\B_ w.heap.size w w':=by
 have H:da (fu w w o X q x ms me mb mf):=h;have HW:da ((Lit.int j_ x.on).wf=true):=hw;have HV:da (fw ms me mb mf x=(cz mf x.on).isSome):=ZcT
 have k3:w.cell? ⟨X,3,n_⟩=o_ (i_ j_ 6):=Zdn
 clear h hw hs
 go_enter func148,ntmps148
 go_wp2_with fail;clear k3;refine aT (λw'=>(w'.cell? ⟨o,10,n_⟩=o_ (i_ j_ 5)/\w'.cell? ⟨o,11,n_⟩=o_ (.map (o_ q.bf))/\w'.cell? ⟨X,7,n_⟩=o_ (i_ j_ x.on))/\da (fu w w' o X q x ms me mb mf)) ZbG (AH H.I.drew) ?_
 iterate 8 (refine PI ?_)
 refine cl (b_ (cz mf x.on).isSome) 178 #[a_ #[i_ j_ 5,.map (o_ q.bf)],i_ j_ x.on] ?_ ?_ ?_
 .exact Zbr
 .intro w0 hS0
  refine(mE 5 q.bf mf x.on w0 hS0.2.I.mf HW.I).mono ?_;rintro e w2 ⟨rfl,hb2⟩;exact⟨rfl,AH (hS0.2.I.below hb2)⟩
 exact wl
def Bi {w w':w_}{o X:Nat}{q:ol}{x:ao}{ms me mb mf:df}(h:fu w w' o X q x ms me mb mf):(w'.cell? ⟨o,8,n_⟩=o_ (i_ j_ 5)/\w'.cell? ⟨o,9,n_⟩=o_ (.map (o_ q.bb))/\w'.cell? ⟨X,7,n_⟩=o_ (i_ j_ x.on))/\da (fu w w' o X q x ms me mb mf):=
 ⟨⟨h.opn.cell 8,h.opn.cell 9,(bo h.box).2.2.2.2.2.2.2.1⟩,h⟩
def Fb (o X:Nat)(q:ol)(x:ao)(ms me mb mf:df)(w:w_)(h:fu w w o X q x ms me mb mf)(hw:(Lit.int j_ x.on).wf=true)(hs:x.Md=7):
  k_ J3 148 #[p_ (o_ ⟨o,0,n_⟩),p_ (o_ ⟨X,0,n_⟩)] w λe w'=>e=r_ (b_ (fw ms me mb mf x))/\B_ w.heap.size w w':=by
 have H:da (fu w w o X q x ms me mb mf):=h;have HW:da ((Lit.int j_ x.on).wf=true):=hw;have HV:da (fw ms me mb mf x=(cz mb x.on).isSome):=ZcT
 have k3:w.cell? ⟨X,3,n_⟩=o_ (i_ j_ 7):=Zdn
 clear h hw hs
 go_enter func148,ntmps148
 go_wp2_with fail;clear k3;refine aT (λw'=>(w'.cell? ⟨o,8,n_⟩=o_ (i_ j_ 5)/\w'.cell? ⟨o,9,n_⟩=o_ (.map (o_ q.bb))/\w'.cell? ⟨X,7,n_⟩=o_ (i_ j_ x.on))/\da (fu w w' o X q x ms me mb mf)) ZbG (Bi H.I.drew) ?_
 iterate 8 (refine PI ?_)
 refine cl (b_ (cz mb x.on).isSome) 177 #[a_ #[i_ j_ 5,.map (o_ q.bb)],i_ j_ x.on] ?_ ?_ ?_
 .exact Zbr
 .intro w0 hS0
  refine(qM 5 q.bb mb x.on w0 hS0.2.I.mb HW.I).mono ?_;rintro e w2 ⟨rfl,hb2⟩;exact⟨rfl,Bi (hS0.2.I.below hb2)⟩
 exact wl
def zh (o X:Nat)(q:ol)(x:ao)(ms me mb mf:df)(w:w_)(h:fu w w o X q x ms me mb mf)(h3:¬x.Md=3)(h4:¬x.Md=4)(h5:¬x.Md=5)(h6:¬x.Md=6)(h7:¬x.Md=7):
  k_ J3 148 #[p_ (o_ ⟨o,0,n_⟩),p_ (o_ ⟨X,0,n_⟩)] w λe w'=>e=r_ (b_ (fw ms me mb mf x))/\B_ w.heap.size w w':=by
 have HV:da (fw ms me mb mf x=true):=by show fw ms me mb mf x=true;simp[fw,h3,h4,h5,h6,h7]
 have k3:=(bo h.box).2.2.2.1;have s3:(x.Md==3)=false:=by simp[h3]
 have s4:(x.Md==4)=false:=by simp[h4]
 have s5:(x.Md==5)=false:=by simp[h5]
 have s6:(x.Md==6)=false:=by simp[h6]
 have s7:(x.Md==7)=false:=by simp[h7]
 clear h h3 h4 h5 h6 h7
 go_enter func148,ntmps148
 go_wp2;go_ret;exact⟨al HV.I.symm,Kp _ _⟩
def Ak (o X:Nat)(q:ol)(x:ao)(ms me mb mf:df)(w:w_)(h:fu w w o X q x ms me mb mf)(hw:(Lit.int j_ x.on).wf=true):
  k_ J3 148 #[p_ (o_ ⟨o,0,n_⟩),p_ (o_ ⟨X,0,n_⟩)] w λe w'=>e=r_ (b_ (fw ms me mb mf x))/\B_ w.heap.size w w':=by
 by_cases h3:x.Md=3
 .exact ER o X q x ms me mb mf w h hw h3
 by_cases h4:x.Md=4
 .exact EH o X q x ms me mb mf w h hw h4
 by_cases h5:x.Md=5
 .exact Fu o X q x ms me mb mf w h hw h5
 by_cases h6:x.Md=6
 .exact Ew o X q x ms me mb mf w h hw h6
 by_cases h7:x.Md=7
 .exact Fb o X q x ms me mb mf w h hw h7
 exact zh o X q x ms me mb mf w h h3 h4 h5 h6 h7
end Go.Proofs.YtckenjkcmajicaaGreat

namespace Go.Proofs.YtckenjkcmajicaaGreat
open Go.RowKit Go.Maps Go.Sort Go.Shelf
def wB (mb:Option Nat)(W:w_):k_ J3 118 #[.map mb] W λe w'=>e=r_ (.func (.func 156) #[] #[p_ (o_ ⟨W.heap.size,0,n_⟩)])/\w'=W.alloc (c_ #[.map mb] 102):=
 (LO (n:=5)).1 (RC Tryz.keysProc Fence.wide 5 trivial rfl mb W)
def qx (Bm b:Nat)(m:df)(W:w_)(hBm:Bm<W.heap.size)(hc:W.cell? ⟨Bm,0,n_⟩=o_ (.map (o_ b)))(h:cF W b m)(hm:m.length<=1048576):
  k_ J3 39 #[.func (.func 156) #[] #[p_ (o_ ⟨Bm,0,n_⟩)]] W λe w'=>∃v:v_,e=r_ v/\w'.ownsRow W.heap.size 2 1 v m.length (m.map λp=>i_ j_ p.1)/\B_ W.heap.size W w':=by
 have hsz:Maps.size (gA m)=m.length:=size_map m;have hseq:SeqGives Fence.wide 2 J3 156 #[p_ (o_ ⟨Bm,0,n_⟩)] encZ (λss=>ss.Perm (intKeys (gA m))) (Maps.size (gA m)) W:=
  RD (ρ:=Tryz.keysProc_ren) {Tryz.keysProc with} Fence.wide _ trivial rfl zw Bm b m.length (gA m) W hBm hc h.1
 have cS:=RE Tryz.sortedA Fence.wide 5 trivial trivial trivial trivial rfl zw (Tryz.sortsA _) (LP func54 ZbG rfl) 156 #[p_ (o_ ⟨Bm,0,n_⟩)] trivial (LP func156 ZbG rfl) _ _ Zcs Zdo _ hseq
 exact h_
def sQ:(Tryz.prog.info? 161).map (λi=>(i.zero,i.size,i.bytes))=o_ (o_ (p_ n_),1,8):=ZbG
def mq (Me:Int)(b:Nat)(m:df)(w:w_)(h:cF w b m)(hm:m.length<=1048576)(hwf:∀p∈m,(Lit.int j_ p.1).wf=true):
  k_ J3 77 #[a_ #[i_ j_ Me,.map (o_ b)]] w λe w'=>∃a cap,e=r_ (s_ a m.length cap)/\w'.ownsRow w.heap.size 161 1 (s_ a m.length cap) m.length (m.map λp=>dt p.2)/\B_ w.heap.size w w':=by
 obtain⟨i0,hi,e0⟩:=Kw.1 sQ;simp only[Kx]at e0;have HI:da (_/\_/\_/\_):=⟨hi,e0⟩
 have HM:da (cF w b m/\∀p∈m,(Lit.int j_ p.1).wf=true):=⟨h,hwf⟩
 have hbl:b<w.heap.size:=h.lt;clear hi e0 h hwf
 go_enter func77,ntmps77
 go_wp2_with(go_at_call 118;refine(wB _ _).mono ?_;rintro e w' ⟨rfl,rfl⟩);refine(qx (w.heap.size+1) b m _ zy zy (HM.I.1.below (((Kp _ w).alloc (Ki _) _).alloc zy _)) hm).mono ?_;rintro e w2 ⟨v,rfl,hown,hb2⟩;have cy:da (B_ w.heap.size w w2):=(((Kp _ w).alloc (Ki _) _).alloc zy _).trans (hb2.mono ZbI);have HS:da (w2.heap[w.heap.size]? =o_ (c_ #[i_ j_ Me,.map (o_ b)] 104)):=(hb2.block _ ZbI).trans ((((Kp _ _).alloc (Ki _) _).block _ zy).trans (Kj _ _));obtain⟨a,cap,hv,hrow⟩:=cr hown;have HR:da (Row w2 a (m.map λp=>i_ j_ p.1)):=hrow;rw[hv];clear hv hown hrow hb2 v;go_wp2_with fail;have Zc:=underlying102;have YC:=underlying159;have anF:=oD
 go_loopw[3,11] (λl i wr=>∃k:Nat,k<=m.length/\i=i_ j_ k/\∃a' cap',l=s_ a' k cap'/\da (anZ 161 w2 m k a' cap' wr)) (λ_ i _=>m.length-(intOf i).toNat)
 case atStart=>exact ZbS
 case round=>
  obtain⟨k,hk,rfl,a',cap',rfl,HO⟩:=hrel;by_cases hlt:k<m.length
  .have qE:(0:Int)<=(k:Int):=zw
   have i1:(k:Int)<(m.length:Int):=zw
   obtain⟨p,hp⟩:∃p,m[k]? =o_ p:=⟨_,Kz hlt⟩
   have hpm:=KA hp;obtain⟨g,ha,hc⟩:=(HR.I.below HO.I.2) k (i_ j_ p.1) ZeC;subst ha;have oE:=cy.I.size;have kT:=HO.I.2.size;have ut:cF wr b m:=HM.I.1.below (cy.I.trans (HO.I.2.mono oE));have hlk:=ut.look Zc (anF wr) (HM.I.2 p hpm) false;rw[jI ut.2 hpm]at hlk;have hsw:=(HO.I.2.block _ (J2.1 HS.I).1).trans HS.I;have s1:wr.cell? ⟨w.heap.size,1,n_⟩=o_ (.map (o_ b)):=by simp[World.cell?,hsw]
   have HP:da (m[k]? =o_ p):=hp;simp only[qz,dt,J5,if_false]at hlk;clear hp hpm ut hsw;go_wp2_with(at_builtin;refine KD _ rfl _ _ _ rfl w2.heap.size _ i0 (p_ n_) 1 8 YC HI.I.1 HI.I.2.1 HI.I.2.2.1 HI.I.2.2.2 rfl (by decide) (s_ a' k cap') k ((m.take k).map λp=>dt p.2) rfl (HO.I.1.alloc _) ⟨wr.heap.size,0,n_⟩ 1 1 [p_ (o_ ⟨p.2,0,n_⟩)] (by rfl) rfl (KE (cs:=#[p_ (o_ ⟨p.2,0,n_⟩)]) (fr:=(0,0)) (Kj wr _)) Zcw Zb2 zw ZbI ?_;intro v' w5 hown' hgrow hnil jV;obtain⟨a5,im,rfl,-⟩:=cr hown';have HN:da (anZ _ w2 m (k+1) a5 im w5):=⟨by rw[cj HP.I,Kl];exact hown',(HO.I.2.alloc kT _).grown hgrow ZbI (λq hq=>(HO.I.1.lt q hq).1)⟩;clear hown' hgrow hnil jV);exact mi
  .have i1:¬(k:Int)<(m.length:Int):=zw
   have e:k=m.length:=zw
   subst e;go_wp2;go_ret;refine⟨a',cap',rfl,?_,cy.I.trans (HO.I.2.mono cy.I.size)⟩
   have:=cq HO.I.1 cy.I.size
   rwa[LQ]at this
end Go.Proofs.YtckenjkcmajicaaGreat

namespace Go.Proofs.YtckenjkcmajicaaGreat
attribute [local go_sem ↓] Kc Kd
def cW (x:aM):Array v_:=#[i_ j_ x.id,b_ x.I,b_ x.Mf,i_ j_ x.max,s_ x.ak x.Ma.length x.aq]
def jf (w:w_)(x:aM):Prop:=fT w x.ak x.Ma
def jf.below {w w':w_}{x:aM}(h:jf w x)(hb:B_ w.heap.size w w'):jf w' x:=fT.below h hb
def gE {W:w_}{X:Nat}{x:aM}(h:W.heap[X]? =o_ (c_ (cW x) 51)):W.cell? ⟨X,0,n_⟩=o_ (i_ j_ x.id)/\W.cell? ⟨X,1,n_⟩=o_ (b_ x.I)/\W.cell? ⟨X,2,n_⟩=o_ (b_ x.Mf)/\W.cell? ⟨X,3,n_⟩=o_ (i_ j_ x.max)/\W.cell? ⟨X,4,n_⟩=o_ (s_ x.ak x.Ma.length x.aq):=by
 unfold cW at h;simp[World.cell?,h]
def iN (x:aM)(w:w_):k_ J3 207 #[a_ (cW x)] w λe w'=>e=r_ (i_ j_ x.id)/\B_ w.heap.size w w':=by
 unfold cW
 go_enter func207,ntmps207
 exact ro
def nY (v:v_)(w:w_):Sem.run J3 (method 405 51 v "loop.example/g00313/impl.number") w=.ok (207,v) w:=by kernel_rfl
def vZ (v:v_)(w:w_):Sem.run J3 (method 405 51 v "loop.example/g00313/impl.right") w=.ok (208,v) w:=by kernel_rfl
def sK (w:w_):(zeroValue 89).run J3 w=.ok (p_ n_) w:=ZbG
def Bb (Me:Int)(b:Nat)(m:df)(id:Int)(w:w_)(h:cF w b m)(hw:(Lit.int j_ id).wf=true):
  k_ J3 179 #[a_ #[i_ j_ Me,.map (o_ b)],i_ j_ id] w λe w'=>e=r_ (b_ (cz m id).isSome)/\B_ w.heap.size w w':=by
 have hlk:=(h.below ((Kp _ w).alloc (Ki _) (c_ #[i_ j_ Me,.map (o_ b)] 119))).look underlying117 (sK _) hw true;simp only[if_true]at hlk;clear h hw
 go_enter func179,ntmps179
 exact ro
def wG (x:aM)(w:w_)(hf:jf w x):k_ J3 208 #[a_ (cW x)] w λe w'=>e=r_ (b_ (dj x.todS))/\B_ w.heap.size w w':=by
 have HF:da (jf w x):=hf;clear hf;obtain⟨⟨id,I,Mf,max,Ma⟩,ak,aq⟩:=x;unfold cW;cases hp:(cv max 1 5&&dJ Ma max)with
 |false=>
  have HP:da ((cv max 1 5&&dJ Ma max)=false):=hp;clear hp
  go_enter func208,ntmps208
  go_wp2_with fail;refine(oy ak Ma aq max _ (fT.below HF.I ((Kp _ _).alloc (Ki _) _))).mono ?_;rintro e w1 ⟨rfl,hw1⟩;rw[HP.I];subst hw1;go_wp2;go_ret;exact⟨al (zS HP.I).symm,(Kp _ _).alloc (Ki _) _⟩
 |true=>
  have HP:da ((cv max 1 5&&dJ Ma max)=true):=hp;clear hp;by_cases h1:max=1
  all_goals
   have HM:da (decide (max=1)=(max==1)):=by show decide (max=1)=(max==1);by_cases h:max=1<;>simp[h]
   have h1':(max==1)=decide (max=1):=HM.I.symm;cases Mf
  all_goals
   have HV:da (∀q,dj ⟨id,I,q,max,Ma⟩=(q||decide (max=1))):=Cu HP.I;simp only[h1,decide_true,decide_false]at h1';clear h1
   go_enter func208,ntmps208
   go_wp2_with fail;refine(oy ak Ma aq max _ (fT.below HF.I ((Kp _ _).alloc (Ki _) _))).mono ?_;rintro e w1 ⟨rfl,hw1⟩;rw[HP.I];subst hw1;go_wp2;go_ret;exact⟨al (by rw[HV.I,HM.I];simp[h1']),(Kp _ _).alloc (Ki _) _⟩
end Go.Proofs.YtckenjkcmajicaaGreat

namespace Go.Proofs.YtckenjkcmajicaaGreat
open Go.Maps
structure kX (w W:w_)(o:Nat)(q:ol)(lp:List (ao×Nat))(ms me mb mf:df):Prop where
 opn:fa W o q
 eh:Shelf aX (λx:ao=>x.id) 125 W 0 q.bp lp
 ms:cF W q.bs ms
 me:cF W q.be me
 mb:cF W q.bb mb
 mf:cF W q.bf mf
 cd:B_ w.heap.size w W
def kX.below {w W W':w_}{o:Nat}{q:ol}{lp:List (ao×Nat)}{ms me mb mf:df}(h:kX w W o q lp ms me mb mf)(hb:B_ W.heap.size W W'):kX w W' o q lp ms me mb mf:=
 ⟨h.opn.below hb,h.eh.below hb,h.ms.below hb,h.me.below hb,h.mb.below hb,h.mf.below hb,h.cd.trans (hb.mono h.cd.size)⟩
def kX.has {w W:w_}{o:Nat}{q:ol}{lp:List (ao×Nat)}{ms me mb mf:df}(h:kX w W o q lp ms me mb mf){p:ao×Nat}(hp:p∈lp):fu W W o p.2 q p.1 ms me mb mf:=
 ⟨h.opn,h.eh.box p hp,h.ms,h.me,h.mb,h.mf,Kp _ _⟩
structure ao.Wf (x:ao):Prop where
 id:(Lit.int j_ x.id).wf=true
 on:(Lit.int j_ x.on).wf=true
 RU:(Lit.int j_ x.RU).wf=true
def DE {lp:List (ao×Nat)}(h:∀p∈lp,p.1.Wf):∀p∈RW (λx:ao=>x.id) lp,(Lit.int j_ p.1).wf=true:=λp hp=>by
 obtain⟨r,hr,rfl⟩:=Lr.1 hp;exact(h r hr).id
def Bh (o:Nat)(q:ol)(lp:List (ao×Nat))(ms me mb mf:df)(w:w_)(h:kX w w o q lp ms me mb mf)(hl:lp.length<=1048576)(hwf:∀p∈lp,p.1.Wf):
  k_ J3 105 #[p_ (o_ ⟨o,0,n_⟩)] w λe w'=>e=r_ (b_ (lp.all λp=>fw ms me mb mf p.1))/\B_ w.heap.size w w':=by
 have H:da (kX w w o q lp ms me mb mf/\∀p∈lp,p.1.Wf):=⟨h,hwf⟩
 have c2:w.cell? ⟨o,2,n_⟩=o_ (i_ j_ 6):=h.opn.cell 2;have c3:w.cell? ⟨o,3,n_⟩=o_ (.map (o_ q.bp)):=h.opn.cell 3;have hkl:(RW (λx:ao=>x.id) lp).length=lp.length:=bZ lp;have HK:da ((RW (λx:ao=>x.id) lp).length=lp.length):=hkl;clear h hwf hkl
 go_enter func105,ntmps105
 go_wp2_with fail;refine(mq 6 q.bp (RW (λx:ao=>x.id) lp) w H.I.1.eh.map ZcS (DE H.I.2)).mono ?_;rintro e w2 ⟨a,cap,rfl,hown,hb2⟩;obtain⟨a',cap',hv,hrow⟩:=cr hown;cases hv;have HR:da (Row w2 a ((RW (λx:ao=>x.id) lp).map λp=>dt p.2)):=hrow;have HO:da (kX w w2 o q lp ms me mb mf):=H.I.1.below hb2;rw[HK.I];clear hown hrow hb2 c2 c3;go_wp2_with fail
 go_loopw[11] (λi wr=>∃k:Nat,k<=lp.length/\i=i_ j_ k/\da (((lp.take k).all λp=>fw ms me mb mf p.1)=true/\B_ w2.heap.size w2 wr)) (λi _=>lp.length-(intOf i).toNat)
 case atStart=>exact⟨0,Ky _,rfl,⟨zy,Kp _ _⟩⟩
 case round=>
  obtain⟨k,hk,rfl,HA⟩:=hrel;have HO2:da (kX w wr o q lp ms me mb mf):=HO.I.below HA.I.2;by_cases hlt:k<lp.length
  .have i0:(0:Int)<=(k:Int):=zw
   have i1:(k:Int)<(lp.length:Int):=zw
   obtain⟨p,hp⟩:∃p,lp[k]? =o_ p:=⟨_,Kz hlt⟩
   have hpm:=KA hp;obtain⟨g,ha,hc⟩:=(HR.I.below HA.I.2) k (dt p.2) Zdq;subst ha;unfold dt at hc;have HP:da (lp[k]? =o_ p/\p∈lp):=⟨hp,hpm⟩
   clear hp hpm;go_wp2_with fail;refine(Ak o p.2 q p.1 ms me mb mf wr (HO2.I.has HP.I.2) (H.I.2 p HP.I.2).on).mono ?_;rintro e w4 ⟨rfl,hb4⟩;have HB4:da (B_ w2.heap.size w2 w4):=HA.I.2.trans (hb4.mono HA.I.2.size);have HF4:da (B_ w.heap.size w w4):=HO2.I.cd.trans (hb4.mono HO2.I.cd.size);clear hb4;cases FN:fw ms me mb mf p.1 with
   |true=>
    have HY:da (((lp.take (k+1)).all λp=>fw ms me mb mf p.1)=true):=by
     show _=true
     rw[cj HP.I.1,List.all_append,HA.I.1];simp[FN]
    clear FN;go_wp2;go_roundw
    case rel=>exact⟨k+1,zw,by go_num,⟨HY.I,HB4.I⟩⟩
    case measure=>exact Zcc
   |false=>
    have HN:da ((lp.all λp=>fw ms me mb mf p.1)=false):=by
     show _=false
     rw[List.all_eq_false];exact⟨p,HP.I.2,by simp[FN]⟩
    clear FN;go_wp2;go_ret;exact⟨al HN.I.symm,HF4.I⟩
  .have i1:¬(k:Int)<(lp.length:Int):=zw
   have HT:da ((lp.all λp=>fw ms me mb mf p.1)=true):=Zce
   go_wp2;go_ret;exact⟨al HT.I.symm,HO2.I.cd⟩
end Go.Proofs.YtckenjkcmajicaaGreat

namespace Go.Proofs.YtckenjkcmajicaaGreat
def api {p:Prop}(h:p):da p:=h
def pi {Me:Int}{m:df}{id:Int}{ok vA vB vC vD:Bool}(hA:(cz m id).isSome=vA)(hB:decide (Me<=(m.length:Int))=vB)(hC:cv id 1 1000=vC)(hD:ok=vD):iI Me m id ok=(!vA&& !vB&&vC&&vD):=by
 subst hA hB hC hD;have e:decide ((m.length:Int)<Me)= !decide (Me<=(m.length:Int)):=by
  by_cases h:Me<=(m.length:Int)
  .simp [h]
  .simp [h,Int.not_le.1 h]
 simp[iI,e]
end Go.Proofs.YtckenjkcmajicaaGreat

namespace Go.Proofs.YtckenjkcmajicaaGreat
open Go.RowKit Go.Maps Go.Sort Go.Shelf
def Z2 (mb:Option Nat)(W:w_):k_ J3 40 #[.map mb] W λe w'=>e=r_ (.func (.func 70) #[] #[p_ (o_ ⟨W.heap.size,0,n_⟩)])/\w'=W.alloc (c_ #[.map mb] 66):=
 (LO (n:=5)).1 (RC Tryz.keysOpen Fence.wide 5 trivial rfl mb W)
def ZF (Bm b:Nat)(m:df)(W:w_)(hBm:Bm<W.heap.size)(hc:W.cell? ⟨Bm,0,n_⟩=o_ (.map (o_ b)))(h:cF W b m)(hm:m.length<=1048576):
  k_ J3 39 #[.func (.func 70) #[] #[p_ (o_ ⟨Bm,0,n_⟩)]] W λe w'=>∃v:v_,e=r_ v/\w'.ownsRow W.heap.size 2 1 v m.length (m.map λp=>i_ j_ p.1)/\B_ W.heap.size W w':=by
 have hsz:Maps.size (gA m)=m.length:=size_map m;have hseq:SeqGives Fence.wide 2 J3 70 #[p_ (o_ ⟨Bm,0,n_⟩)] encZ (λss=>ss.Perm (intKeys (gA m))) (Maps.size (gA m)) W:=
  RD (ρ:=Tryz.keysOpen_ren) {Tryz.keysOpen with} Fence.wide _ trivial rfl zw Bm b m.length (gA m) W hBm hc h.1
 have cS:=RE Tryz.sortedA Fence.wide 5 trivial trivial trivial trivial rfl zw (Tryz.sortsA _) (LP func54 ZbG rfl) 70 #[p_ (o_ ⟨Bm,0,n_⟩)] trivial (LP func70 ZbG rfl) _ _ Zcs Zdo _ hseq
 exact h_
end Go.Proofs.YtckenjkcmajicaaGreat
