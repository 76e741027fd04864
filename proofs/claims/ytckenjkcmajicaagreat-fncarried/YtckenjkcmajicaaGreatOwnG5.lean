/- What the proof leans on, part 5. -/
import Derived.Test.YtckenjkcmajicaaGreatOwnG1
import Derived.Test.YtckenjkcmajicaaGreatOwnG3
import Derived.Laws.CopyOwn
import Derived.Deep.WholeRow
import Derived.Great.FillDense
import Derived.Deep.AppendLies
set_option linter.all false
set_option maxRecDepth 100000
set_option maxHeartbeats 8000000
open Go.Proofs.Tryz
open Go renaming World->w_,Value->v_,Calls->k_,Addr->d_,TypeId->T_,below_setRow->q_
open Go.Ending renaming returned->r_
open Go.IntKind renaming i64->j_
open Go.Obj renaming cells->c_
open Go.RowKit renaming Below->B_,Hid->da
open Go.Value renaming int->i_,slice->s_,bool->b_,string->t_,agg->a_,pointer->p_,tuple->u_
open Option renaming some->o_,none->n_
open Array renaming length_toList->aen,size_setIfInBounds->aem
open Go renaming wpList_plain->aec
open Go.Proofs.Tryz renaming prog->J3
open Go.Result renaming andThen_ok->QT
open List renaming map_toArray->aed

open Go.RowKit
namespace Go.Proofs.YtckenjkcmajicaaGreat
section
def tx:Array v_:=Array.replicate 62 (i_ j_ 0)
def Tq (m n:Int):Array v_:=#[i_ j_ m,i_ j_ n]++Array.replicate 60 (i_ j_ 0)
def ub:tx.size=62:=by simp[tx]
def E3 (m n:Int):(Tq m n).size=62:=by simp[Tq]
def Tn:tx.all (·.oneCell')=true:=by
 refine aeb.2 λv hv=>?_
 obtain⟨_,rfl⟩:=Array.mem_replicate.1 hv;rfl
def U3 (m n:Int):(Tq m n).all (·.oneCell')=true:=by
 refine aeb.2 λv hv=>?_
 rcases Array.mem_append.1 hv with h|h
 .simp at h
  rcases h with rfl|rfl<;>rfl
 .obtain ⟨_,rfl⟩:=Array.mem_replicate.1 h
  rfl
def TI (w:w_):(Instr.alloc 65 true (u_ #[])).run J3 w=.ok (p_ (o_ ⟨w.heap.size,0,n_⟩)) (w.alloc (c_ tx 65)):=ZbG
def Tv (w:w_):(Instr.build 65 #[]).run J3 w=.ok (a_ tx) w:=ZbG
def TE (m n:Int)(w:w_):(Instr.build 65 #[(0,i_ j_ m),(1,i_ j_ n)]).run J3 w=.ok (a_ (Tq m n)) w:=ZbG
def Dw:(Tryz.prog.info? 65).map (·.size)=o_ 62:=ZbG
def gq {ops:Array Oper}{rest:List Oper}{op:Oper}{a:Act}{w:w_}{Q:Exit->Act->w_->Prop}(hgd:op.guard=n_)(ho:op.op=.alloc 65)(N:Nat)(hN:w.heap.size=N)(T:Array v_)(hT:tx=T)
  (h:wpList J3 ops Q rest (a.put op.dst (p_ (o_ ⟨N,0,n_⟩))) (w.alloc (c_ T 65))):wpList J3 ops Q (op::rest) a w:=
 aec hgd λ_ hK=>by
  subst hT;unfold Oper.wp execOp;simp only[ho,QR,TI,QT];rw[hN];exact hK _ _ h
def j3 {ops:Array Oper}{rest:List Oper}{op:Oper}{a:Act}{w:w_}{Q:Exit->Act->w_->Prop}(hgd:op.guard=n_)(ho:op.op=.build 65 #[])(T:Array v_)(hT:tx=T)
  (h:wpList J3 ops Q rest (a.put op.dst (a_ T)) w):wpList J3 ops Q (op::rest) a w:=
 aec hgd λ_ hK=>by
  subst hT;unfold Oper.wp execOp;simp only[ho,QR,aed,QV,Tv,QT];exact hK _ _ h
def Sc {ops:Array Oper}{rest:List Oper}{op:Oper}{a:Act}{w:w_}{Q:Exit->Act->w_->Prop}(hgd:op.guard=n_)(x y:Operand)(ho:op.op=.build 65 #[(0,x),(1,y)])
  (m n:Int)(hx:a.eval x=i_ j_ m)(hy:a.eval y=i_ j_ n)(T:Array v_)(hT:Tq m n=T)
  (h:wpList J3 ops Q rest (a.put op.dst (a_ T)) w):wpList J3 ops Q (op::rest) a w:=
 aec hgd λ_ hK=>by
  subst hT;unfold Oper.wp execOp;simp only[ho,QR,aed,Lt,QV,hx,hy,TE,QT];exact hK _ _ h
def fC {ops:Array Oper}{rest:List Oper}{op:Oper}{a:Act}{w:w_}{Q:Exit->Act->w_->Prop}(hgd:op.guard=n_)(x y:Operand)(ho:op.op=.store 65 x y)
  (g:Nat)(cells:Array v_)(hx:a.eval x=p_ (o_ ⟨g,0,n_⟩))(hy:a.eval y=a_ cells)(old:Array v_)(hg:w.heap[g]? =o_ (c_ old 65))(hos:old.size=62)(hcs:cells.size=62)(h1:cells.all (·.oneCell')=true)
  (h:wpList J3 ops Q rest (a.put op.dst undef) (w.setRow g cells)):wpList J3 ops Q (op::rest) a w:=
 wpList_store_row hgd 65 x y ho g cells hx hy 65 old hg (by rw[Dw,hcs]) (by rw[hos,hcs]) h1 h
def ma {tmps:Array v_}{w:w_}{g:Nat}{t:T_}{cs:Array v_}{fr:Nat×Nat}{b:Bool}(hp:tmps.getD 2 undef=p_ (o_ ⟨g,0,n_⟩))(hb:tmps.getD 3 undef=b_ b)
  (hg:w.heap[g]? =o_ (c_ cs t fr))(hs:cs.size=62):(results Tryz.f34 tmps).run J3 w=.ok (u_ #[a_ cs,b_ b]) w:=by
 rw[results_cell_tmp (results34),hp,hb]
 have:=run_loadVar_row (P:=J3) w g t 65 cs fr _ hg underlying65 rfl (by rw[Dw,hs])
 simp[asAddr,this]
def Up (major:Int)(g len cap:Nat)(w:w_)(hl:len<=1048576)(h:major<1\/1000<major\/20<len):
  k_ J3 34 #[a_ #[i_ j_ major,s_ (o_ ⟨g,0,n_⟩) len cap]] w λe w'=>e=r_ (u_ #[a_ tx,b_ false])/\B_ w.heap.size w w':=by
 obtain⟨T,hT⟩:∃T,tx=T:=⟨_,rfl⟩
 have hs:T.size=62:=by rw[<-hT];exact ub
 have ho:T.all (·.oneCell')=true:=by rw[<-hT];exact Tn
 have HT:da (tx=T):=hT;clear hT;by_cases h1:major<1
 .exact m_
 by_cases h2:1000<major
 .exact m_
 have h3:20<len:=zw
 exact m_
def va (m:Int)(n:Nat)(Z:Nat->Int)(k:Nat)(j:Nat):v_:=
 if j=0 then i_ j_ m else if j=1 then i_ j_ n else if j-2<k*3 then i_ j_ (Z (j-2))else i_ j_ 0
def UE (w:w_)(m:Int)(n:Nat)(Z:Nat->Int):(w.alloc (c_ (Tq m n) 65)).rowIs w.heap.size 65 62 (va m n Z 0):=by
 have h:=World.rowIs_alloc w (Tq m n) 65 (va m n Z 0) (λi hi=>by
  rw[E3]at hi;unfold Tq va;by_cases e0:i=0
  .subst e0;simp
  by_cases e1:i=1
  .subst e1;simp
  rw[Array.getElem?_append_right ZbI]
  have:i-2<60:=zw
  simp[e0,e1,this])
 rwa[E3]at h
def Vi {wr:w_}{g n k:Nat}{m:Int}{Z:Nat->Int}(h:wr.rowIs g 65 62 (va m n Z k)):
  (((wr.setCell ⟨g,2+k*3,n_⟩ (i_ j_ (Z (k*3)))).setCell ⟨g,2+k*3+1,n_⟩ (i_ j_ (Z (k*3+1)))).setCell ⟨g,2+k*3+2,n_⟩ (i_ j_ (Z (k*3+2)))).rowIs g 65 62 (va m n Z (k+1)):=by
 refine(((h.set (2+k*3) _).set (2+k*3+1) _).set (2+k*3+2) _).congr ?_;intro j _;unfold va;by_cases e2:j=2+k*3+2
 .subst e2;rw[if_pos rfl,if_neg zw,if_neg zw,if_pos zw,show 2+k*3+2-2=k*3+2 by omega]
 by_cases e1:j=2+k*3+1
 .subst e1;rw[if_neg zw,if_pos rfl,if_neg zw,if_neg zw,if_pos zw,show 2+k*3+1-2=k*3+1 by omega]
 by_cases e0:j=2+k*3
 .subst e0;rw[if_neg zw,if_neg zw,if_pos rfl,if_neg zw,if_neg zw,if_pos zw,show 2+k*3-2=k*3 by omega]
 rw[if_neg e2,if_neg e1,if_neg e0];by_cases j0:j=0
 .rw [if_pos j0,if_pos j0]
 by_cases j1:j=1
 .rw [if_neg j0,if_neg j0,if_pos j1,if_pos j1]
 rw[if_neg j0,if_neg j0,if_neg j1,if_neg j1];by_cases hj:j-2<k*3
 .rw [if_pos hj,if_pos zw]
 .rw [if_neg hj,if_neg zw]
def P2 (m:Int)(n:Nat)(Z:Nat->Int)(cs:Array v_):Prop:=cs.size=62/\∀j,j<62->cs[j]? =o_ (va m n Z n j)
def U5 (m:Int)(n:Nat)(Z:Nat->Int)(k j:Nat):(va m n Z k j).oneCell'=true:=by
 unfold va
 repeat' split
 all_goals rfl
def P2.one {m:Int}{n:Nat}{Z:Nat->Int}{cs:Array v_}(h:P2 m n Z cs):cs.all (·.oneCell')=true:=by
 refine aeb.2 λv hv=>?_
 obtain⟨i,hi,rfl⟩:=Array.getElem_of_mem hv
 have:=h.2 i (by have:=h.1;omega)
 rw[Qb hi]at this;rw[KC this];exact U5 _ _ _ _ _
def VN (w:w_)(A B C:Obj):(((w.alloc A).alloc B).alloc C).heap[w.heap.size+1+1]? =o_ C:=by
 have h:=Kj ((w.alloc A).alloc B) C
 rwa[RR,RR]at h
def Vy (w:w_)(A B:Obj)(c c':Array v_)(t:T_):(((w.alloc A).alloc B).alloc (c_ c t)).setRow (w.heap.size+1+1) c'=((w.alloc A).alloc B).alloc (c_ c' t):=by
 have h:=World.setRow_alloc_new ((w.alloc A).alloc B) c c' t
 rwa[RR,RR]at h
def T4 (major:Int)(g len cap:Nat)(Z:Nat->Int)(w:w_)(h1:1<=major)(h2:major<=1000)(h3:len<=20)(hz:∀j,-9223372036854775808<=Z j/\Z j<=9223372036854775807)(hr:lT w g len Z):
  k_ J3 34 #[a_ #[i_ j_ major,s_ (o_ ⟨g,0,n_⟩) len cap]] w λe w'=>
   (((∀i,i<len->pn major Z i=true)/\∃cs,e=r_ (u_ #[a_ cs,b_ true])/\P2 major len Z cs)\/(¬(∀i,i<len->pn major Z i=true)/\e=r_ (u_ #[a_ tx,b_ false])))/\B_ w.heap.size w w':=by
 have k1:¬major<1:=zw
 have k2:¬1000<major:=zw
 have k3:¬(20:Int)<len:=zw
 have hgl:=hr.lt;obtain⟨T,hT⟩:∃T,tx=T:=⟨_,rfl⟩
 have hs:T.size=62:=by rw[<-hT];exact ub
 have ho:T.all (·.oneCell')=true:=by rw[<-hT];exact Tn
 have HT:da (tx=T):=hT;clear hT;obtain⟨U,hU⟩:∃U,Tq major len=U:=⟨_,rfl⟩
 have hs':U.size=62:=by rw[<-hU];exact E3 _ _
 have ho':U.all (·.oneCell')=true:=by rw[<-hU];exact U3 _ _
 have HU:da (Tq major len=U):=hU;clear hU
 go_enter func34,ntmps34
 go_wp2_with(first|(refine gq rfl rfl (w.heap.size+1) ?hN T HT.I ?_;(case hN=>(rw[RR];done)))|(refine gq rfl rfl (w.heap.size+1+1) ?hN T HT.I ?_;(case hN=>rw[RR,RR]))|(refine Sc rfl (.tmp 24) (.tmp 27) rfl major len (by rfl) (by rfl) U HU.I ?_)|(refine fC rfl (.tmp 4) (.tmp 28) rfl (w.heap.size+1+1) U (by rfl) (by rfl) T (by exact VN _ _ _ _) hs hs' ho' ?_;rw[Vy]));obtain⟨W0,hW0⟩:∃W0,(((w.alloc (Obj.cells #[Value.int IntKind.i64 major,Value.slice (o_ ⟨g,0,n_⟩) len cap] 26)).alloc (Obj.cells T 65)).alloc (Obj.cells U 65))=W0:=⟨_,rfl⟩
 have b0:W0.heap.size=w.heap.size+3:=by rw[<-hW0];simp
 have b1:B_ w.heap.size w W0:=by rw[<-hW0];go_grown
 have b2:W0.rowIs (w.heap.size+1+1) 65 62 (va major len Z 0):=by rw[<-hW0,<-HU.I];have:=UE ((w.alloc (Obj.cells #[Value.int IntKind.i64 major,Value.slice (o_ ⟨g,0,n_⟩) len cap] 26)).alloc (Obj.cells T 65)) major len Z;rwa[RR,RR]at this
 have b3:W0.heap[w.heap.size+1]? =o_ (c_ T 65):=by rw[<-hW0,PU zy,Kq]
 have b4:W0.heap[w.heap.size]? =o_ (c_ #[Value.int IntKind.i64 major,Value.slice (o_ ⟨g,0,n_⟩) len cap] 26):=by rw[<-hW0,PU ZbI,heap_alloc2_old]
 rw[hW0];clear hW0
 go_loopw[5,32] (λt i wr=>∃k:Nat,k<=len/\i=i_ j_ k/\t=i_ j_ (o7 Z k)/\(∀i,i<k->pn major Z i=true)/\wr.rowIs (w.heap.size+1+1) 65 62 (va major len Z k)/\B_ (w.heap.size+1+1) W0 wr) (λ_ i _=>len-(intOf i).toNat)
 case atStart=>exact⟨0,Ky _,rfl,rfl,λi hi=>zw,b2,Kp _ _⟩
 case round=>
  obtain⟨k,hk,rfl,rfl,hall,UF,kj⟩:=hrel;have HA:da (∀i,i<k->pn major Z i=true):=hall;have he:=A4 k hall;clear hall;obtain⟨he0,he1⟩:=he;have he1:=he1 h1;have hsz:w.heap.size+1+1<wr.heap.size:=by have:=kj.size;omega
  have hsz0:w.heap.size<wr.heap.size:=zw
  have hsz1:w.heap.size+1<wr.heap.size:=zw
  have hB:B_ w.heap.size w wr:=b1.trans (kj.mono zw);have r4:wr.heap[w.heap.size]? =o_ (c_ #[Value.int IntKind.i64 major,Value.slice (o_ ⟨g,0,n_⟩) len cap] 26):=(kj.block _ zw).trans b4;have r3:wr.heap[w.heap.size+1]? =o_ (c_ T 65):=(kj.block _ zw).trans b3;have m0:wr.cell? ⟨w.heap.size,0,n_⟩=o_ (i_ j_ major):=by simp[World.cell?,r4]
  have ei:da (wr.heap[w.heap.size+1]? =o_ (c_ T 65)):=r3;clear r3 r4;have HTab:da (wr.rowIs (w.heap.size+1+1) 65 62 (va major len Z k)):=UF;clear UF;by_cases hlt:k<len
  .have Vo:lT wr g len Z:=hr.of_block (hB.block g hgl)
   have c0:wr.cell? ⟨g,k*3,n_⟩=o_ (i_ j_ (Z (k*3))):=Vo.cell zw;have c1:wr.cell? ⟨g,k*3+1,n_⟩=o_ (i_ j_ (Z (k*3+1))):=Vo.cell zw;have c2:wr.cell? ⟨g,k*3+2,n_⟩=o_ (i_ j_ (Z (k*3+2))):=Vo.cell zw;clear Vo;have q0:=hz (k*3);have q0':=hz (k*3+1);have HST:da (∀wx:w_,wx.rowIs (w.heap.size+1+1) 65 62 (va major len Z k)->(((wx.setCell ⟨w.heap.size+1+1,2+k*3,n_⟩ (i_ j_ (Z (k*3)))).setCell ⟨w.heap.size+1+1,2+k*3+1,n_⟩ (i_ j_ (Z (k*3+1)))).setCell ⟨w.heap.size+1+1,2+k*3+2,n_⟩ (i_ j_ (Z (k*3+2)))).rowIs (w.heap.size+1+1) 65 62 (va major len Z (k+1))):=λwx hx=>Vi hx
   have HE:da (o7 Z (k+1)=Z (k*3)+Z (k*3+1)):=rfl;have HW:da (pn major Z k=BX major (o7 Z k) (Z (k*3)) (Z (k*3+1)) (Z (k*3+2))):=rfl;generalize Z (k*3)=a at*;generalize Z (k*3+1)=l at*;generalize Z (k*3+2)=p at*;generalize o7 Z k=en at*;clear hz hr;cases TX:BX major en a l p with
   |false=>
    go_wp2_with(first|(go_at_call 62;refine(C2 _ _ _ _ _ _ he0 h1 h2).mono ?_;rintro e w1 ⟨rfl,hb1⟩;rw[TX];have z1:=hb1.size;have R1:=(hb1.block (w.heap.size+1) ZbI).trans ((PU zw).trans ei.I);simp only[RR]at z1)|(refine j3 rfl rfl T HT.I ?_)|(refine fC rfl (.tmp 2) (.tmp 43) rfl (w.heap.size+1) T (by rfl) (by rfl) T ZcD hs hs ho ?_));refine KT (ma (cs:=T) (b:=false) (g:=w.heap.size+1) (t:=65) (fr:=(0,0)) rfl rfl ?_ hs) rfl ⟨.inr ⟨λhh=>?_,by rw[HT.I]⟩,?_⟩
    .exact KU _ _ T _ _ _ R1
    .have:=hh k hlt;rw[HW.I,TX]at this;cases this
    .exact q_ ((hB.alloc zw _).trans (hb1.mono ZbI)) zw _
   |true=>
    have hwo:=TO TX;go_wp2_with fail;refine(C2 _ _ _ _ _ _ he0 h1 h2).mono ?_;rintro e w1 ⟨rfl,hb1⟩;rw[TX];have z1:=hb1.size;have hr1:w1.rowIs (w.heap.size+1+1) 65 62 (va major len Z k):=(HTab.I.alloc _).of_block (hb1.block _ ZbI);have d0:=hr1.cell (i:=2+k*3) zw;have d1:=hr1.cell (i:=2+k*3+1) zw;have d2:=hr1.cell (i:=2+k*3+2) zw;have f0:=hr1.frozen (2+k*3);have f1:=hr1.frozen (2+k*3+1);have f2:=hr1.frozen (2+k*3+2);have e0:w1.cell? ⟨wr.heap.size,0,n_⟩=o_ (i_ j_ a):=(hb1.cell (p:=⟨wr.heap.size,0,n_⟩) zy).trans zy;have e1:w1.cell? ⟨wr.heap.size,1,n_⟩=o_ (i_ j_ l):=(hb1.cell (p:=⟨wr.heap.size,1,n_⟩) zy).trans zy;have e2:w1.cell? ⟨wr.heap.size,2,n_⟩=o_ (i_ j_ p):=(hb1.cell (p:=⟨wr.heap.size,2,n_⟩) zy).trans zy;simp only[RR]at z1;have pG:da (w1.rowIs (w.heap.size+1+1) 65 62 (va major len Z k)):=hr1;have fQ:da (B_ w.heap.size w w1/\B_ (w.heap.size+1+1) W0 w1):=⟨(hB.alloc zw _).trans (hb1.mono ZbI),(kj.alloc zw _).trans (hb1.mono ZbI)⟩
    clear hr1 hb1 kj hB;go_wp2;go_roundw
    case rel=>
     refine⟨k+1,zw,by go_num,by rw[HE.I],?_,HST.I _ pG.I,((fQ.I.2.setCell (Ki _) _).setCell (Ki _) _).setCell (Ki _) _⟩;intro i hi;by_cases e:i=k
     .subst e;rw[HW.I];exact TX
     .exact HA.I i zw
    case measure=>exact Zcc
  .have e:k=len:=zw
   subst e;obtain⟨cs,hcs,VD,hcc⟩:=HTab.I;have UF:P2 major k Z cs:=⟨VD,hcc⟩
   have hcc1:=UF.one;have HI:da (P2 major k Z cs):=UF;have HC:da (wr.heap[w.heap.size+1+1]? =o_ (c_ cs 65)):=hcs;clear UF hcc hcs hlt hz hr;go_wp2_with(first|(refine LS rfl 65 (.tmp 4) rfl (w.heap.size+1+1) (by rfl) 65 cs (0,0) _ HC.I underlying65 rfl (by rw[Dw,VD]) ?_)|(refine fC rfl (.tmp 2) (.tmp 54) rfl (w.heap.size+1) cs (by rfl) (by rfl) T ei.I hs VD hcc1 ?_));refine KT (ma (cs:=cs) (b:=true) (g:=w.heap.size+1) (t:=65) (fr:=(0,0)) rfl rfl ?_ VD) rfl ⟨.inl ⟨HA.I,cs,rfl,HI.I⟩,?_⟩
   .exact KU _ _ T _ _ _ ei.I
   .exact q_ hB zw _
def TV (major:Int)(g len cap:Nat)(Z:Nat->Int)(w:w_)(hl:len<=1048576)(hz:∀j,-9223372036854775808<=Z j/\Z j<=9223372036854775807)(hr:lT w g len Z):
  k_ J3 34 #[a_ #[i_ j_ major,s_ (o_ ⟨g,0,n_⟩) len cap]] w λe w'=>
   ((nn major len Z=true/\∃cs,e=r_ (u_ #[a_ cs,b_ true])/\P2 major len Z cs)\/(nn major len Z=false/\e=r_ (u_ #[a_ tx,b_ false])))/\B_ w.heap.size w w':=by
 by_cases h:major<1\/1000<major\/20<len
 .refine (Up major g len cap w hl h).mono ?_
  rintro e w' ⟨rfl,hb⟩;exact⟨.inr ⟨mm zw,rfl⟩,hb⟩
 .refine (T4 major g len cap Z w zw zw zw hz hr).mono ?_
  rintro e w' ⟨⟨ha,cs,rfl,hc⟩|⟨ha,rfl⟩,hb⟩
  .exact ⟨.inl ⟨PE ⟨zw,zw,zw,ha⟩,cs,rfl,hc⟩,hb⟩
  .exact ⟨.inr ⟨mm (λhh=>ha hh.2.2.2),rfl⟩,hb⟩
def Tg:Array v_:=Array.replicate 63 (i_ j_ 0)++#[.map n_,s_ n_ 0 0]
def B3 (bE:Int)(tab:Array v_)(b:Nat)(a:Option d_)(n cap:Nat)(j:Nat):v_:=
 if j=0 then i_ j_ bE else if j=64 then s_ a n cap else if j=63 then .map (o_ b)else(tab[j-1]?).getD undef
def UV (parts:List (Nat×v_)):Tryz.prog.built 69 parts=Instr.fill (#[(0,1),(1,62),(63,1),(64,1)][·]?) Tg parts:=ZbG
def To {place:Nat->Option (Nat×Nat)}{cells:Array v_}{i off size:Nat}{v:v_}{rest:List (Nat×v_)}(hp:place i=o_ (off,size))(h1:v.cells.size=size)(h2:off+v.cells.size<=cells.size):
  Instr.fill place cells ((i,v)::rest)=Instr.fill place (v.cells.zipIdx.foldl (λcs(x:v_×Nat)=>cs.setIfInBounds (off+x.2) x.1) cells) rest:=by
 rw[Instr.fill,hp];simp only;rw[if_neg (by simp[h1];omega)]
def UH (m:Int)(T:Array v_)(b:Nat)(hT:T.size=62):∃cs,Tryz.prog.built 69 [(0,i_ j_ m),(1,a_ T),(2,.map (o_ b))]=o_ cs/\cs.size=65/\∀j,j<65->cs[j]? =o_ (B3 m T b n_ 0 0 j):=by
 obtain⟨h1,h2⟩:=Go.Great.foldl_set 1 T.toList 0 (Tg.setIfInBounds 0 (i_ j_ m));have hz:Tg.size=65:=by simp[Tg]
 have e:T.zipIdx.foldl (λcs(x:v_×Nat)=>cs.setIfInBounds (1+x.2) x.1) (Tg.setIfInBounds 0 (i_ j_ m))=(T.toList.zipIdx 0).foldl (λcs(x:v_×Nat)=>cs.setIfInBounds (1+x.2) x.1) (Tg.setIfInBounds 0 (i_ j_ m)):=by
  rw[<-Array.foldl_toList];simp
 refine⟨((T.toList.zipIdx 0).foldl (λcs(x:v_×Nat)=>cs.setIfInBounds (1+x.2) x.1) (Tg.setIfInBounds 0 (i_ j_ m))).setIfInBounds 63 (.map (o_ b)),?_,?_,?_⟩
 .rw [UV]
  have hzs:(Tg.setIfInBounds 0 (i_ j_ m)).size=65:=by rw[aem,hz]
  rw[To (off:=0) (size:=1) (v:=i_ j_ m) rfl rfl (by rw[hz];show 0+1<=65;decide)]
  show Instr.fill _ (Tg.setIfInBounds 0 (i_ j_ m)) _=_
  rw[To (off:=1) (size:=62) (v:=a_ T) rfl hT (by rw[hzs];show 1+T.size<=65;omega)]
  show Instr.fill _ (T.zipIdx.foldl (λcs(x:v_×Nat)=>cs.setIfInBounds (1+x.2) x.1) (Tg.setIfInBounds 0 (i_ j_ m))) _=_
  rw[e,To (off:=63) (size:=1) (v:=.map (o_ b)) rfl rfl (by rw[h1,hzs];show 63+1<=65;decide)];rfl
 .rw [aem,h1,aem,hz]
 .intro j hj
  rw[Array.getElem?_setIfInBounds,h1,aem,hz];by_cases h63:63=j
  .subst h63;simp[B3]
  rw[if_neg h63,h2 j,aem,hz,aen,hT,Array.getElem?_setIfInBounds];by_cases h0:j=0
  .subst h0;simp[B3,hz]
  by_cases h64:j=64
  .subst h64;simp[B3,Tg]
  rw[if_pos zw];have hl:j-(1+0)<T.toList.length:=by rw[aen];omega
  rw[Kz hl];unfold B3;rw[if_neg h0,if_neg h64,if_neg (Ne.symm h63)];rw[Qb zw];simp
end
section
attribute [local go_sem] Oper.semAt_some
def P2.count {m:Int}{n:Nat}{Z:Nat->Int}{cs:Array v_}(h:P2 m n Z cs):cs[1]? =o_ (i_ j_ n):=by
 rw[h.2 1 (by decide)];rfl
def P2.major {m:Int}{n:Nat}{Z:Nat->Int}{cs:Array v_}(h:P2 m n Z cs):cs[0]? =o_ (i_ j_ m):=by
 rw[h.2 0 (by decide)];rfl
def P2.win {m:Int}{n:Nat}{Z:Nat->Int}{cs:Array v_}(h:P2 m n Z cs)(hn:n<=20){j:Nat}(hj:j<n*3):cs[2+j]? =o_ (i_ j_ (Z j)):=by
 rw[h.2 (2+j) zw];unfold va;rw[if_neg zw,if_neg zw,if_pos zw,show 2+j-2=j by omega]
def Z4 (Z:Nat->Int)(k:Nat):v_:=a_ #[i_ j_ (Z (k*3)),i_ j_ (Z (k*3+1)),i_ j_ (Z (k*3+2))]
def aaV (cs:Array v_)(major:Int)(len:Nat)(Z:Nat->Int)(h:P2 major len Z cs)(hn:len<=20)(B:Nat):abB 62 J3 68 #[a_ cs] (λk=>#[Z4 Z k]) len B:=by
 intro l M YP W hB hM hY h0;have hsz:=h.1;have hlt1:1<cs.size:=zw
 have aaA:cs[1]=i_ j_ len:=by have:=h.count;rw[Qb hlt1]at this;exact KC this
 have HM:da (∀k X o,M k X->M k (X.alloc o)):=hM;have HY:da (∀k X,k<len->M k X->YieldAt Fence.wide 4 J3 l #[Z4 Z k] X λe X'=>(e=r_ (b_ true)/\M (k+1) X'/\Zu 62 B X X')\/(e=r_ (b_ false)/\YP X')):=hY;clear hM hY;refine callsIn_of_wp func68 rfl trivial ?_ rfl;simp only[ntmps68,List.size_toArray,List.length_cons,List.length_nil,Nat.reduceAdd,Nat.reduceSub,Array.replicate_succ,Array.replicate_zero,List.push_toArray,List.append_toArray,List.nil_append,List.cons_append]
 gi_wp2
 clear aaA
 gi_loopw [7] (λi wr=>∃k:Nat,k<=len/\i=i_ j_ k/\M k wr/\wr.heap[W.heap.size]? =o_ (c_ cs 65)) (λi _=>len-(intOf i).toNat)
 case atStart=>exact⟨0,Ky _,rfl,HM.I _ _ _ h0,Kj _ _⟩
 case round=>
  obtain⟨k,hk,rfl,hMk,lD⟩:=hrel;by_cases hlt:k<len
  .have c0:wr.cell? ⟨W.heap.size,2+k*3,n_⟩=o_ (i_ j_ (Z (k*3))):=by rw[K5 wr _ _ cs 65 _ lD];exact h.win hn zw
   have c1:wr.cell? ⟨W.heap.size,2+k*3+1,n_⟩=o_ (i_ j_ (Z (k*3+1))):=by rw[K5 wr _ _ cs 65 _ lD];exact h.win hn (j:=k*3+1) zw
   have c2:wr.cell? ⟨W.heap.size,2+k*3+2,n_⟩=o_ (i_ j_ (Z (k*3+2))):=by rw[K5 wr _ _ cs 65 _ lD];exact h.win hn (j:=k*3+2) zw
   obtain⟨fn,tmps,assign,body,hy,hR⟩:=HY.I k wr hlt hMk;simp only[Z4]at hy;have HR:da (RoundIn Fence.wide 4 J3 l fn tmps assign body wr λe X'=>(e=r_ (b_ true)/\M (k+1) X'/\Zu 62 B wr X')\/(e=r_ (b_ false)/\YP X')):=hR;have Uc:da (wr.heap[W.heap.size]? =o_ (c_ cs 65)):=lD;clear hR lD
   gi_wp2
   refine HR.I.mono ?_;rintro e W3 (⟨rfl,hM3,hk3⟩|⟨rfl,hx3⟩)
   .have b3:=hk3.2 W.heap.size cs 65 (0,0) (by decide) hB Uc.I
    have oh:da (W3.heap[W.heap.size]? =o_ (c_ cs 65)):=b3;clear b3
    gi_wp2
    go_roundw
    case rel=>exact⟨k+1,zw,by go_num,hM3,oh.I⟩
    case measure=>exact Zcc
   .gi_wp2
    refine KT (results_none rfl _ _ _) rfl ?_;exact⟨⟨_,rfl⟩,.inr hx3⟩
  .gi_wp2
   go_end0
   have e:k=len:=zw
   subst e;exact⟨⟨_,rfl⟩,.inl hMk⟩
def an9 (Z:Nat->Int)(x:Int)(i:Nat):Bool:=decide (Z (i*3)<=x/\x<Z (i*3)+Z (i*3+1))
def an5 (Z:Nat->Int)(len:Nat)(x:Int):Int:=match(List.range len).find? (an9 Z x)with
 |some i=>Z (i*3+2)
 |none=>0
def aoh {Z:Nat->Int}{len k:Nat}{x:Int}(hk:k<len)(h:an9 Z x k=true)(hb:∀i,i<k->an9 Z x i=false):an5 Z len x=Z (k*3+2):=by
 have:(List.range len).find? (an9 Z x)=o_ k:=by
  rw[List.find?_range_eq_some];exact⟨h,by simpa using hk,λj hj=>by simp[hb j hj]⟩
 simp only[an5,this]
def an8 {Z:Nat->Int}{len:Nat}{x:Int}(hb:∀i,i<len->an9 Z x i=false):an5 Z len x=0:=by
 have:(List.range len).find? (an9 Z x)=n_:=by
  rw[List.find?_range_eq_none];exactλi hi=>by simp[hb i hi]
 simp only[an5,this]
def aoN {Z:Nat->Int}{x:Int}{i:Nat}(h:Z (i*3)<=x/\x<Z (i*3)+Z (i*3+1)):an9 Z x i=true:=by simp only[an9];exact decide_eq_true h
def aoi {Z:Nat->Int}{x:Int}{i:Nat}(h:¬(Z (i*3)<=x/\x<Z (i*3)+Z (i*3+1))):an9 Z x i=false:=by simp only[an9];exact decide_eq_false h
def aod {major:Int}{Z:Nat->Int}{len i:Nat}(h:∀i,i<len->pn major Z i=true)(hi:i<len):
  0<=Z (i*3)/\1<=Z (i*3+1)/\Z (i*3)+Z (i*3+1)<=major/\1<=Z (i*3+2)/\Z (i*3+2)<=6:=by
 have h1:=TO (h i hi);have h2:=A4 (major:=major) (Z:=Z) i (λj hj=>h j zw);omega
def aoZ (major t:Int)(g len cap:Nat)(Z:Nat->Int)(w:w_)(hl:len<=20)(h1:1<=major)(h2:major<=1000)(h3:∀i,i<len->pn major Z i=true)(t0:0<=t)(t1:t<=2000000000)(hr:lT w g len Z):
  k_ J3 139 #[a_ #[i_ j_ major,s_ (o_ ⟨g,0,n_⟩) len cap],i_ j_ t] w λe w'=>e=r_ (i_ j_ (an5 Z len (t%major)))/\B_ w.heap.size w w':=by
 have hgl:=hr.lt;have hm:¬major=0:=zw
 have H3:da (∀i,i<len->pn major Z i=true):=h3;clear h3;have x0:0<=t%major:=Int.emod_nonneg _ hm;have x1:t%major<major:=Int.emod_lt_of_pos _ zw
 go_enter func139,ntmps139
 go_wp2;obtain⟨x,hx⟩:∃x,t%major=x:=⟨_,rfl⟩
 rw[hx]at x0 x1⊢;have HX:da (t%major=x):=hx;clear hx
 go_loopw[6] (λi wr=>∃k:Nat,k<=len/\i=i_ j_ k/\(∀i,i<k->an9 Z x i=false)/\B_ (w.heap.size+1) (w.alloc (c_ #[i_ j_ major,s_ (o_ ⟨g,0,n_⟩) len cap] 26)) wr) (λi _=>len-(intOf i).toNat)
 case atStart=>exact⟨0,Ky _,rfl,λi hi=>zw,Kp _ _⟩
 case round=>
  obtain⟨k,hk,rfl,hno,kj⟩:=hrel;have HN:da (∀i,i<k->an9 Z x i=false):=hno;clear hno;have hs:w.heap.size<wr.heap.size:=Zfd
  have m0:wr.cell? ⟨w.heap.size,0,n_⟩=o_ (i_ j_ major):=(kj.cell (p:=⟨w.heap.size,0,n_⟩) zy).trans zy;have m1:wr.cell? ⟨w.heap.size,1,n_⟩=o_ (s_ (o_ ⟨g,0,n_⟩) len cap):=(kj.cell (p:=⟨w.heap.size,1,n_⟩) zy).trans zy;have hB:B_ w.heap.size w wr:=((Kp _ _).alloc (Ki _) _).trans (kj.mono zw);by_cases hlt:k<len
  .have Vo:lT wr g len Z:=(hr.alloc _).of_block (kj.block g zw)
   have c0:wr.cell? ⟨g,k*3,n_⟩=o_ (i_ j_ (Z (k*3))):=Vo.cell zw;have c1:wr.cell? ⟨g,k*3+1,n_⟩=o_ (i_ j_ (Z (k*3+1))):=Vo.cell zw;have c2:wr.cell? ⟨g,k*3+2,n_⟩=o_ (i_ j_ (Z (k*3+2))):=Vo.cell zw;clear Vo hr;have hw:=aod H3.I hlt;have HH:da (Z (k*3)<=x/\x<Z (k*3)+Z (k*3+1)->an5 Z len x=Z (k*3+2)):=λhh=>aoh hlt (aoN hh) HN.I
   have HM:da (¬(Z (k*3)<=x/\x<Z (k*3)+Z (k*3+1))->∀i,i<k+1->an9 Z x i=false):=λhh i hi=>by
    by_cases e:i=k
    .subst e;exact aoi hh
    .exact HN.I i zw
   generalize Z (k*3)=a at*;generalize Z (k*3+1)=l at*;generalize Z (k*3+2)=p at*;obtain⟨w0,w1,w2,w3,w4⟩:=hw;by_cases q1:x<a
   .exact ZaB
   by_cases q2:x<a+l
   .go_wp2
    go_ret;exact⟨ck (by rw[HX.I];exact(HH.I zw).symm),hB.alloc zw _⟩
   .exact ZaB
  .go_wp2
   go_ret;have e:k=len:=zw
   subst e;exact⟨ck (by rw[HX.I];exact(an8 HN.I).symm),hB⟩
end
section
structure gG (r:Nat)(w w':w_):Prop where
 os:w'.os=w.os
 tape:w'.tape=w.tape
 output:w'.output=w.output
 size:w.heap.size<=w'.heap.size
 block:∀k,k<w.heap.size->k≠r->w'.heap[k]? =w.heap[k]?
def gG.refl (r:Nat)(w:w_):gG r w w:=⟨rfl,rfl,rfl,Ki _,λ_ _ _=>rfl⟩
def gG.trans {r:Nat}{a b c:w_}(h:gG r a b)(k:gG r b c):gG r a c:=
 ⟨k.os.trans h.os,k.tape.trans h.tape,k.output.trans h.output,LG h.size k.size,λi hi hr=>(k.block i (Kn hi h.size) hr).trans (h.block i hi hr)⟩
def gG.drew {r:Nat}{a w:w_}(h:gG r a w):gG r a w.drew:=⟨h.os,h.tape,h.output,h.size,h.block⟩
def gG.setCell {r:Nat}{a w:w_}(h:gG r a w)(i:Nat)(v:v_):gG r a (w.setCell ⟨r,i,n_⟩ v):=
 h.trans ⟨rfl,rfl,rfl,zy,λk _ hr=>K6 _ _ _ _ hr⟩
def gG.dI {r:Nat}{w w':w_}(h:B_ w.heap.size w w'):gG r w w':=⟨h.os,h.tape,h.output,h.size,λk hk _=>h.block k hk⟩
def gG.below {r B:Nat}{w w':w_}(h:gG r w w')(hr:B<=r)(hB:B<=w.heap.size):B_ B w w':=⟨h.os,h.tape,h.output,h.size,λk hk=>h.block k zw zw⟩
def gG.alloc {r:Nat}{a w:w_}(h:gG r a w)(o:Obj):gG r a (w.alloc o):=h.trans (gG.dI ((Kp _ _).alloc (Ki _) _))
def gG.cell {r:Nat}{w w':w_}(h:gG r w w'){p:d_}(hp:p.block<w.heap.size)(hr:p.block≠r):w'.cell? p=w.cell? p:=J1 (w:=w) (h.block p.block hp hr)
def Buf (w:w_)(r:Nat)(a:Option d_)(len:Nat):Prop:=len=0\/ ∃b off,a=o_ ⟨b,off,n_⟩/\b≠r/\∀i,i<len->∃v:Int,w.cell? ⟨b,off+i,n_⟩=o_ (i_ .u8 v)/\0<=v/\v<=255
def Rd (r:Nat)(a:Option d_)(len cap:Nat)(w:w_):Prop:=(∃p:Nat,p<=len/\w.heap[r]? =o_ (c_ #[s_ a len cap,i_ j_ p] 142))/\Buf w r a len
def Buf.but {w w':w_}{r:Nat}{a:Option d_}{len:Nat}(h:Buf w r a len)(hb:gG r w w'):Buf w' r a len:=by
 rcases h with h|⟨b,off,e,hr,hc⟩
 .exact .inl h
 .refine .inr ⟨b,off,e,hr,λi hi=>?_⟩
  obtain⟨v,hv,hv'⟩:=hc i hi;exact⟨v,(hb.cell (p:=⟨b,off+i,n_⟩) (Le hv) hr).trans hv,hv'⟩
def Rd.lt {r:Nat}{a:Option d_}{len cap:Nat}{w:w_}(h:Rd r a len cap w):r<w.heap.size:=by
 obtain⟨⟨p,_,hp⟩,_⟩:=h;exact(J2.1 hp).1
def Rd.below {r:Nat}{a:Option d_}{len cap:Nat}{w w':w_}(h:Rd r a len cap w)(hb:B_ w.heap.size w w'):Rd r a len cap w':=by
 have hl:=h.lt;obtain⟨⟨p,h1,hp⟩,hbuf⟩:=h;exact⟨⟨p,h1,(hb.block _ hl).trans hp⟩,hbuf.but (gG.dI hb)⟩
def A9 (r:Nat)(a:Option d_)(len cap:Nat)(w:w_)(hl:len<=1048576)(h:Rd r a len cap w):
  k_ J3 96 #[p_ (o_ ⟨r,0,n_⟩)] w λe w'=>∃v:Int,0<=v/\v<=255/\e=r_ (i_ j_ v)/\gG r w w'/\Rd r a len cap w':=by
 obtain⟨⟨p,hp,hr⟩,hb⟩:=h;have c0:w.cell? ⟨r,0,n_⟩=o_ (s_ a len cap):=by simp[World.cell?,hr]
 have c1:w.cell? ⟨r,1,n_⟩=o_ (i_ j_ p):=by simp[World.cell?,hr]
 have f1:w.frozen? ⟨r,1,n_⟩=false:=Ko w _ _ _ _ hr;have HR:da (w.heap[r]? =o_ (c_ #[s_ a len cap,i_ j_ p] 142)):=hr;have HB:da (Buf w r a len):=hb;clear hr hb;by_cases hlt:len<=p
 .have hd:decide ((len:Int)<=(p:Int))=true:=by simp;omega
  go_enter func96,ntmps96
  go_wp2
  go_region_held3 (λw'=>w'.cell? ⟨r,0,n_⟩=o_ (s_ a len cap)/\w'.cell? ⟨r,1,n_⟩=o_ (i_ j_ p)) (go_keep) (fail)
  go_wp2;go_ret;exact⟨0,zw,zw,rfl,(gG.refl _ _).drew,⟨p,hp,HR.I⟩,HB.I.but (gG.refl _ _).drew⟩
 .have hd:decide ((len:Int)<=(p:Int))=false:=by simp;omega
  rcases HB.I with h0|⟨b,off,rfl,hbr,hc⟩
  .omega
  obtain⟨v,hv,v0,v1⟩:=hc p zw;have xc:=Le hv;have hpw:IntKind.i64.wrap (p:Int)=(p:Int):=Zca
  have hbr':¬r=b:=λe=>hbr e.symm
  have i0:(0:Int)<=(p:Int):=zw
  have i1:(p:Int)<(len:Int):=zw
  clear hc
  go_enter func96,ntmps96
  go_wp2
  go_region_held3 (λw'=>w'.cell? ⟨r,0,n_⟩=o_ (s_ (o_ ⟨b,off,n_⟩) len cap)/\w'.cell? ⟨r,1,n_⟩=o_ (i_ j_ p)) (go_keep) (fail)
  go_wp2;have k0:(w.setCell ⟨r,1,n_⟩ (i_ j_ ((p:Int)+1))).cell? ⟨r,0,n_⟩=o_ (s_ (o_ ⟨b,off,n_⟩) len cap):=by rw[World.cell?_setCell_other _ _ _ _ zy];exact c0
  have k1:(w.setCell ⟨r,1,n_⟩ (i_ j_ ((p:Int)+1))).cell? ⟨r,1,n_⟩=o_ (i_ j_ ((p:Int)+1)):=World.cell?_setCell_same' _ _ _ (by rw[c1];rfl);have k2:(w.setCell ⟨r,1,n_⟩ (i_ j_ ((p:Int)+1))).cell? ⟨b,off+p,n_⟩=o_ (i_ .u8 v):=by rw[World.cell?_setCell_other _ _ _ _ (by intro h;have:=congrArg Addr.block h;simp at this;omega)];exact hv
  have k3:(w.setCell ⟨r,1,n_⟩ (i_ j_ ((p:Int)+1))).heap[r]? =o_ (c_ #[s_ (o_ ⟨b,off,n_⟩) len cap,i_ j_ ((p:Int)+1)] 142):=K7 _ _ _ _ _ _ HR.I;have HK:da ((w.setCell ⟨r,1,n_⟩ (i_ j_ ((p:Int)+1))).heap[r]? =o_ (c_ #[s_ (o_ ⟨b,off,n_⟩) len cap,i_ j_ ((p:Int)+1)] 142)/\gG r w (w.setCell ⟨r,1,n_⟩ (i_ j_ ((p:Int)+1)))):=⟨k3,(gG.refl _ _).setCell _ _⟩
  clear k3 c0 c1 hv f1;generalize w.setCell ⟨r,1,n_⟩ (i_ j_ ((p:Int)+1))=W1 at*
  go_region_held3 (λw'=>w'.cell? ⟨r,0,n_⟩=o_ (s_ (o_ ⟨b,off,n_⟩) len cap)/\w'.cell? ⟨r,1,n_⟩=o_ (i_ j_ ((p:Int)+1))/\w'.cell? ⟨b,off+p,n_⟩=o_ (i_ .u8 v)) (go_keep) (fail)
  have hvw:IntKind.i64.wrap v=v:=Zca
  go_wp2;go_ret;exact⟨v,v0,v1,ck (by first|rfl|exact hvw),HK.I.2.drew.drew,⟨p+1,zw,by have:=HK.I.1;exact this⟩,HB.I.but HK.I.2.drew.drew⟩
def dh (r:Nat)(a:Option d_)(len cap:Nat)(n:Int)(w:w_)(hl:len<=1048576)(n0:2<=n)(n1:n<=256)(h:Rd r a len cap w):
  k_ J3 60 #[p_ (o_ ⟨r,0,n_⟩),i_ j_ n] w λe w'=>∃v:Int,0<=v/\v<n/\e=r_ (i_ j_ v)/\gG r w w'/\Rd r a len cap w':=by
 have k1:¬n<=1:=zw
 have k2:¬n=0:=zw
 go_enter func60,ntmps60
 go_wp2_with fail;refine(A9 r a len cap _ hl h).mono ?_;rintro e w1 ⟨v,v0,v1,rfl,hb,hr⟩;have m0:0<=v%n:=Int.emod_nonneg _ k2;have m1:v%n<n:=Int.emod_lt_of_pos _ zw;go_wp2;go_ret;exact⟨v%n,m0,m1,rfl,hb,hr⟩
def jt (r:Nat)(a:Option d_)(len cap:Nat)(n:Int)(w:w_)(hl:len<=1048576)(n0:2<=n)(n1:n<=256)(h:Rd r a len cap w):
  k_ J3 58 #[p_ (o_ ⟨r,0,n_⟩),i_ j_ n] w λe w'=>∃v:Bool,e=r_ (b_ v)/\gG r w w'/\Rd r a len cap w':=by
 go_enter func58,ntmps58
 go_wp2_with fail;refine(dh r a len cap n _ hl n0 n1 h).mono ?_;rintro e w1 ⟨v,v0,v1,rfl,hb,hr⟩;go_wp2;go_ret;exact⟨_,rfl,hb,hr⟩
def BO (r:Nat)(a:Option d_)(len cap:Nat)(w:w_)(hl:len<=1048576)(h:Rd r a len cap w):
  k_ J3 97 #[p_ (o_ ⟨r,0,n_⟩)] w λe w'=>∃v:Int,e=r_ (i_ .u64 v)/\gG r w w'/\Rd r a len cap w':=by
 go_enter func97,ntmps97
 go_wp2
 go_loopw[3,4] (λx i wr=>∃(k:Nat)(y:Int),k<=8/\i=i_ j_ k/\x=i_ .u64 y/\gG r w wr/\Rd r a len cap wr) (λ_ i _=>8-(intOf i).toNat)
 case atStart=>exact⟨0,0,zw,rfl,rfl,gG.refl _ _,h⟩
 case round=>
  obtain⟨k,y,hk,rfl,rfl,hb,hr⟩:=hrel;by_cases hlt:k<8
  .go_wp2_with fail
   refine(A9 r a len cap _ hl hr).mono ?_;rintro e w1 ⟨v,v0,v1,rfl,hb1,hr1⟩;go_wp2;go_roundw
   case rel=>exact⟨k+1,_,zw,by go_num,rfl,hb.trans hb1,hr1⟩
   case measure=>exact Zcc
  .go_wp2
   go_ret;exact⟨y,rfl,hb,hr⟩
def FM (r:Nat)(a:Option d_)(len cap:Nat)(low high:Int)(w:w_)(hl:len<=1048576)(l0: -1<=low)(l1:low<=high)(l2:high<=1000000000)(h:Rd r a len cap w):
  k_ J3 61 #[p_ (o_ ⟨r,0,n_⟩),i_ j_ low,i_ j_ high] w λe w'=>∃v:Int,e=r_ (i_ j_ v)/\gG r w w'/\Rd r a len cap w':=by
 have k1:¬high<low:=zw
 have k2:¬high-low+1=0:=zw
 go_enter func61,ntmps61
 go_wp2_with fail;refine(dh r a len cap 8 _ hl zw zw h).mono ?_;rintro e w1 ⟨v,v0,v1,rfl,hb,hr⟩;by_cases e0:v=0
 .have b0:(v==0)=true:=by simp[e0]
  go_wp2;go_ret;exact⟨_,rfl,hb,hr⟩
 have b0:(v==0)=false:=by simp[e0]
 by_cases e1:v=1
 .have b1:(v==1)=true:=by simp[e1]
  go_wp2;go_ret;exact⟨_,rfl,hb,hr⟩
 have b1:(v==1)=false:=by simp[e1]
 go_wp2_with fail;refine(BO r a len cap _ hl hr).mono ?_;exact Zba
def pj (r:Nat)(a:Option d_)(len cap:Nat)(low high:Int)(w:w_)(hl:len<=1048576)(l0: -1<=low)(l1:low<=high)(l2:high<=1000000000)(h:Rd r a len cap w):
  k_ J3 33 #[p_ (o_ ⟨r,0,n_⟩),i_ j_ low,i_ j_ high] w λe w'=>∃v:Int,e=r_ (i_ j_ v)/\gG r w w'/\Rd r a len cap w':=by
 go_enter func33,ntmps33
 go_wp2_with fail;refine(jt r a len cap 24 _ hl zw zw h).mono ?_;rintro e w1 ⟨v,rfl,hb,hr⟩;cases v with
 |true=>
  have rl:=hr.lt;go_wp2_with fail;refine(dh r a len cap 4 _ hl zw zw (hr.below ((Kp _ _).alloc (Ki _) _))).mono ?_;rintro e w2 ⟨v,v0,v1,rfl,hb2,hr2⟩;obtain⟨n,rfl⟩:=QK v0;have hn:n<4:=zw
  have hy:∃y,w2.cell? ⟨w1.heap.size,n,n_⟩=o_ (i_ j_ y):=by
   rw[hb2.cell (p:=⟨w1.heap.size,n,n_⟩) zy ZbI,World.cell?_alloc_new]
   match n,hn with
   |0,_=>exact⟨_,rfl⟩
   |1,_=>exact⟨_,rfl⟩
   |2,_=>exact⟨_,rfl⟩
   |3,_=>exact⟨_,rfl⟩
  obtain⟨y,hy⟩:=hy;have HB:da (gG r w w2):=(hb.alloc _).trans hb2;clear hb2 hb;go_wp2;go_ret;exact⟨y,rfl,HB.I,hr2⟩
 |false=>
  go_wp2_with fail;refine(FM r a len cap low high _ hl l0 l1 l2 hr).mono ?_;exact Zba
def AJ {w w':w_}{bj e size n r:Nat}{v:v_}{xs:List v_}(h:w.ownsRow bj e size v n xs)(hb:gG r w w')(hr:r<bj):w'.ownsRow bj e size v n xs:=by
 obtain⟨h1,h2⟩:=h;refine⟨h1,?_⟩;rcases h2 with h2|⟨g,cap,cur,hv,hg,hh,rest⟩
 .exact .inl h2
 .exact .inr ⟨g,cap,cur,hv,hg,(hb.block g (J2.1 hh).1 zw).trans hh,rest⟩
def gG.grown {r:Nat}{a w w':w_}{row:Option Nat}(h:gG r a w)(hg:w.grownBy w' row)(hr:∀k,row=o_ k->a.heap.size<=k):gG r a w':=
 ⟨hg.os.trans h.os,hg.tape.trans h.tape,hg.output.trans h.output,LG h.size hg.size,λk hk hkr=>
  (hg.block k (Kn hk h.size) (λe=>by have:=hr k e.symm;omega)).trans (h.block k hk hkr)⟩
def gG.alc {r:Nat}{w w':w_}(h:gG r w.drew w'):gG r w w':=⟨h.os,h.tape,h.output,h.size,h.block⟩
def gG.sF {r:Nat}{a w:w_}(h:gG r a w)(b i:Nat)(v:v_)(hb:a.heap.size<=b):gG r a (w.setCell ⟨b,i,n_⟩ v):=
 ⟨h.os,h.tape,h.output,by simpa using h.size,λk hk hr=>(K6 _ _ _ _ ZbI).trans (h.block k hk hr)⟩
def Bytes (w:w_)(a:Option d_)(len:Nat):Prop:=len=0\/ ∃b off,a=o_ ⟨b,off,n_⟩/\∀i,i<len->∃v:Int,w.cell? ⟨b,off+i,n_⟩=o_ (i_ .u8 v)/\0<=v/\v<=255
def Bytes.below {w w':w_}{a:Option d_}{len:Nat}(h:Bytes w a len)(hb:B_ w.heap.size w w'):Bytes w' a len:=by
 rcases h with h|⟨b,off,e,hc⟩
 .exact .inl h
 .refine .inr ⟨b,off,e,λi hi=>?_⟩
  obtain⟨v,hv,hv'⟩:=hc i hi;exact⟨v,(J1 (w:=w) (hb.block b (Le hv))).trans hv,hv'⟩
def Bytes.buf {w:w_}{a:Option d_}{len:Nat}(h:Bytes w a len):Buf w w.heap.size a len:=by
 rcases h with h|⟨b,off,e,hc⟩
 .exact .inl h
 .rcases Nat.eq_zero_or_pos len with h0|h0
  .exact .inl h0
  .refine .inr ⟨b,off,e,?_,hc⟩
   obtain⟨v,hv,_⟩:=hc 0 h0
   have:=Le hv
   simp at this;omega
def Gj (a:Option d_)(len cap:Nat)(w:w_)(hb:Bytes w a len):
  k_ J3 31 #[s_ a len cap] w λe w'=>e=r_ (p_ (o_ ⟨w.heap.size,0,n_⟩))/\B_ w.heap.size w w'/\Rd w.heap.size a len cap w'/\gG w.heap.size w w':=by
 go_enter func31,ntmps31
 go_wp2;go_ret;exact⟨rfl,(Kp _ _).alloc (Ki _) _,⟨⟨0,zw,Kj w _⟩,hb.buf.but ((gG.refl _ _).alloc _)⟩,(gG.refl _ _).alloc _⟩
def xG {r:Nat}{W w2:w_}{xs:Array v_}{t:T_}{n:Nat}(hb:gG r (W.alloc (c_ xs t)) w2)(hr:r<W.heap.size):w2.cell? ⟨W.heap.size,n,n_⟩=xs[n]?:=by
 have hrow:w2.heap[W.heap.size]? =o_ (c_ xs t):=(hb.block _ zy zw).trans (Kj _ _);rw[K5 _ _ _ _ _ _ hrow]
def ajJ (r:Nat)(a:Option d_)(len cap:Nat)(w:w_)(hl:len<=1048576)(h:Rd r a len cap w):
  k_ J3 168 #[p_ (o_ ⟨r,0,n_⟩)] w λe w'=>∃v:Int,e=r_ (i_ j_ v)/\gG r w w'/\Rd r a len cap w':=by
 have rl:=h.lt
 go_enter func168,ntmps168
 go_wp2_with fail;refine(dh r a len cap 5 _ hl zw zw (h.below ((Kp _ _).alloc (Ki _) _))).mono ?_;rintro e w2 ⟨v,v0,v1,rfl,hb2,hr2⟩;obtain⟨n,rfl⟩:=QK v0;have hn:n<5:=zw
 have hy:∃y,w2.cell? ⟨w.heap.size,n,n_⟩=o_ (i_ j_ y):=by
  rw[xG hb2 rl]
  match n,hn with
  |0,_=>exact⟨_,rfl⟩
  |1,_=>exact⟨_,rfl⟩
  |2,_=>exact⟨_,rfl⟩
  |3,_=>exact⟨_,rfl⟩
  |4,_=>exact⟨_,rfl⟩
 obtain⟨y,hy⟩:=hy;have HB:da (gG r w w2):=((gG.refl _ _).alloc _).trans hb2;clear hb2;go_wp2;go_ret;exact⟨y,rfl,HB.I,hr2⟩
def B0 (r:Nat)(a:Option d_)(len cap:Nat)(w:w_)(hl:len<=1048576)(h:Rd r a len cap w):
  k_ J3 169 #[p_ (o_ ⟨r,0,n_⟩)] w λe w'=>∃t:ByteArray,t.size<=3/\e=r_ (t_ t)/\gG r w w'/\Rd r a len cap w':=by
 have rl:=h.lt
 go_enter func169,ntmps169
 go_wp2_with fail;refine(dh r a len cap 5 _ hl zw zw (h.below ((Kp _ _).alloc (Ki _) _))).mono ?_;rintro e w2 ⟨v,v0,v1,rfl,hb2,hr2⟩;obtain⟨n,rfl⟩:=QK v0;have hn:n<5:=zw
 have hy:∃y:ByteArray,y.size<=3/\w2.cell? ⟨w.heap.size,n,n_⟩=o_ (t_ y):=by
  rw[xG hb2 rl]
  match n,hn with
  |0,_=>exact⟨_,by decide,rfl⟩
  |1,_=>exact⟨_,by decide,rfl⟩
  |2,_=>exact⟨_,by decide,rfl⟩
  |3,_=>exact⟨_,by decide,rfl⟩
  |4,_=>exact⟨_,by decide,rfl⟩
 obtain⟨y,hys,hy⟩:=hy;have HB:da (gG r w w2):=((gG.refl _ _).alloc _).trans hb2;clear hb2;go_wp2;go_ret;exact⟨y,hys,rfl,HB.I,hr2⟩
structure fO (r:Nat)(a:Option d_)(len cap:Nat)(w x:w_)(q:Nat)(k n m:Int)(t:ByteArray):Prop where
 res:x.heap[w.heap.size]? =o_ (c_ #[i_ j_ 0,i_ j_ 0,i_ j_ 0,t_ ⟨#[]⟩] 217)
 op:x.heap[q]? =o_ (c_ #[i_ j_ k,i_ j_ n,i_ j_ m,t_ t] 217)
 but:gG r w x
 rd:Rd r a len cap x
 st:Rd r a len cap w
 lt:w.heap.size<q
def fO.rl {r:Nat}{a:Option d_}{len cap:Nat}{w x:w_}{q:Nat}{k n m:Int}{t:ByteArray}(h:fO r a len cap w x q k n m t):r<w.heap.size:=h.st.lt
def fO.move {r:Nat}{a:Option d_}{len cap:Nat}{w x y:w_}{q:Nat}{k n m:Int}{t:ByteArray}(h:fO r a len cap w x q k n m t)(hb:gG r x y)(hr:Rd r a len cap y):fO r a len cap w y q k n m t:=by
 have h1:=h.rl;have h2:=h.lt;exact⟨(hb.block _ (J2.1 h.res).1 zw).trans h.res,(hb.block _ (J2.1 h.op).1 zw).trans h.op,h.but.trans hb,hr,h.st,h2⟩
def vp {r:Nat}{a:Option d_}{len cap:Nat}{w x:w_}(h:Rd r a len cap x)(st:Rd r a len cap w)(hb:gG r w x){b i:Nat}(hbl:w.heap.size<=b)(v:v_):Rd r a len cap (x.setCell ⟨b,i,n_⟩ v):=by
 obtain⟨p,hp,hrow⟩:=h.1;have hr:=st.lt;exact⟨⟨p,hp,(K6 _ _ _ _ ZbI).trans hrow⟩,st.2.but (hb.sF b i v hbl)⟩
def fO.set {r:Nat}{a:Option d_}{len cap:Nat}{w x:w_}{q:Nat}{k n m k' n' m':Int}{t t':ByteArray}(h:fO r a len cap w x q k n m t){i:Nat}{v:v_}(e:(#[i_ j_ k,i_ j_ n,i_ j_ m,t_ t]:Array v_).setIfInBounds i v=#[i_ j_ k',i_ j_ n',i_ j_ m',t_ t']):fO r a len cap w (x.setCell ⟨q,i,n_⟩ v) q k' n' m' t':=by
 have h2:=h.lt;refine⟨(K6 _ _ _ _ ZbI).trans h.res,?_,h.but.sF q i v zw,vp h.rd h.st h.but zw v,h.st,h2⟩;have h0:=K7 _ q i _ _ v h.op;rw[e]at h0;exact h0
def fO.ends {r:Nat}{a:Option d_}{len cap:Nat}{w x:w_}{q:Nat}{k n m k' n' m':Int}{t t':ByteArray}(h:fO r a len cap w x q k n m t):
  ((((x.setCell ⟨w.heap.size,0,n_⟩ (i_ j_ k')).setCell ⟨w.heap.size,1,n_⟩ (i_ j_ n')).setCell ⟨w.heap.size,2,n_⟩ (i_ j_ m')).setCell ⟨w.heap.size,3,n_⟩ (t_ t')).heap[w.heap.size]? =o_ (c_ #[i_ j_ k',i_ j_ n',i_ j_ m',t_ t'] 217)/\
  gG r w ((((x.setCell ⟨w.heap.size,0,n_⟩ (i_ j_ k')).setCell ⟨w.heap.size,1,n_⟩ (i_ j_ n')).setCell ⟨w.heap.size,2,n_⟩ (i_ j_ m')).setCell ⟨w.heap.size,3,n_⟩ (t_ t'))/\
  Rd r a len cap ((((x.setCell ⟨w.heap.size,0,n_⟩ (i_ j_ k')).setCell ⟨w.heap.size,1,n_⟩ (i_ j_ n')).setCell ⟨w.heap.size,2,n_⟩ (i_ j_ m')).setCell ⟨w.heap.size,3,n_⟩ (t_ t')):=by
 have b0:=h.but.sF w.heap.size 0 (i_ j_ k') (Ki _);have b1:=b0.sF w.heap.size 1 (i_ j_ n') (Ki _);have b2:=b1.sF w.heap.size 2 (i_ j_ m') (Ki _);have b3:=b2.sF w.heap.size 3 (t_ t') (Ki _);have d0:=vp h.rd h.st h.but (i:=0) (Ki _) (i_ j_ k');have d1:=vp d0 h.st b0 (i:=1) (Ki _) (i_ j_ n');have d2:=vp d1 h.st b1 (i:=2) (Ki _) (i_ j_ m');have d3:=vp d2 h.st b2 (i:=3) (Ki _) (t_ t');refine⟨?_,b3,d3⟩;have e0:=K7 _ w.heap.size 0 _ _ (i_ j_ k') h.res;have e1:=K7 _ w.heap.size 1 _ _ (i_ j_ n') e0;have e2:=K7 _ w.heap.size 2 _ _ (i_ j_ m') e1;have e3:=K7 _ w.heap.size 3 _ _ (t_ t') e2;simpa using e3
def fO.cells {r:Nat}{a:Option d_}{len cap:Nat}{w x:w_}{q:Nat}{k n m:Int}{t:ByteArray}(h:fO r a len cap w x q k n m t):
  (x.cell? ⟨q,0,n_⟩=o_ (i_ j_ k)/\x.cell? ⟨q,1,n_⟩=o_ (i_ j_ n)/\x.cell? ⟨q,2,n_⟩=o_ (i_ j_ m)/\x.cell? ⟨q,3,n_⟩=o_ (t_ t))/\
  (x.cell? ⟨w.heap.size,0,n_⟩=o_ (i_ j_ 0)/\x.cell? ⟨w.heap.size,1,n_⟩=o_ (i_ j_ 0)/\x.cell? ⟨w.heap.size,2,n_⟩=o_ (i_ j_ 0)/\x.cell? ⟨w.heap.size,3,n_⟩=o_ (t_ ⟨#[]⟩))/\
  (∀i,x.frozen? ⟨q,i,n_⟩=false)/\(∀i,x.frozen? ⟨w.heap.size,i,n_⟩=false):=by
 refine⟨⟨?_,?_,?_,?_⟩,⟨?_,?_,?_,?_⟩,λi=>Ko _ _ _ _ _ h.op,λi=>Ko _ _ _ _ _ h.res⟩
 .rw [K5 _ _ _ _ _ _ h.op];rfl
 .rw [K5 _ _ _ _ _ _ h.op];rfl
 .rw [K5 _ _ _ _ _ _ h.op];rfl
 .rw [K5 _ _ _ _ _ _ h.op];rfl
 .rw [K5 _ _ _ _ _ _ h.res];rfl
 .rw [K5 _ _ _ _ _ _ h.res];rfl
 .rw [K5 _ _ _ _ _ _ h.res];rfl
 .rw [K5 _ _ _ _ _ _ h.res];rfl
def jy:(Tryz.prog.info? 217).map (·.size)=o_ 4:=ZbG
def op_any (r:Nat)(a:Option d_)(len cap:Nat)(w:w_)(hl:len<=1048576)(h:Rd r a len cap w):
  k_ J3 136 #[p_ (o_ ⟨r,0,n_⟩)] w λe w'=>∃o:dN,o.2.2.2.size<=3/\e=r_ (a_ #[i_ j_ o.1,i_ j_ o.2.1,i_ j_ o.2.2.1,t_ o.2.2.2])/\gG r w w'/\Rd r a len cap w':=by
 have HS:da (Rd r a len cap w):=h;have rl:=h.lt;clear h
 go_enter func136,ntmps136
 go_wp2_with fail;refine(dh r a len cap 17 _ hl zw zw (HS.I.below ((Kp _ _).alloc (Ki _) _))).mono ?_;rintro e w1 ⟨v,v0,v1,rfl,hb1,hr1⟩;have hres:w1.heap[w.heap.size]? =o_ (c_ #[i_ j_ 0,i_ j_ 0,i_ j_ 0,t_ ⟨#[]⟩] 217):=(hb1.block _ zy zw).trans (Kj _ _);have pG:da (w1.heap[w.heap.size]? =o_ (c_ #[i_ j_ 0,i_ j_ 0,i_ j_ 0,t_ ⟨#[]⟩] 217)/\gG r w w1):=⟨hres,((gG.refl _ _).alloc _).trans hb1⟩
 clear hb1 hres;obtain⟨k,hk⟩:∃k:Int,k=1+v:=⟨_,rfl⟩
 have e1:IntKind.i64.wrap (1+v)=k:=by rw[K8,hk];omega
 have k0:1<=k:=zw
 have k1:k<=17:=zw
 have e2:IntKind.i64.wrap k=k:=Zca
 have e3:wrap64 k=k:=Zc8
 clear hk;go_wp2_with fail;refine(dh r a len cap 2 _ hl zw zw hr1).mono ?_;rintro e w2 ⟨u,u0,u1,rfl,hb2,hr2⟩;obtain⟨n,hn⟩:∃n:Int,n=1+u:=⟨_,rfl⟩
 have f1:IntKind.i64.wrap (1+u)=n:=by rw[K8,hn];omega
 have f2:IntKind.i64.wrap n=n:=Zca
 have f3:wrap64 n=n:=Zc8
 have H2:da (∀n:Int,fO r a len cap w (w2.alloc (c_ #[i_ j_ k,i_ j_ n,i_ j_ 0,t_ ⟨#[]⟩] 217)) w2.heap.size k n 0 ⟨#[]⟩):=λn=>by
  have l1:w.heap.size<w1.heap.size:=(J2.1 pG.I.1).1;have r2:w2.heap[w.heap.size]? =o_ (c_ #[i_ j_ 0,i_ j_ 0,i_ j_ 0,t_ ⟨#[]⟩] 217):=(hb2.block _ l1 zw).trans pG.I.1;have l2:w.heap.size<w2.heap.size:=(J2.1 r2).1;exact⟨(PU l2).trans r2,Kj _ _,(pG.I.2.trans hb2).alloc _,hr2.below ((Kp _ _).alloc (Ki _) _),HS.I,l2⟩
 clear hn hb2 hr2 hr1 pG;obtain⟨q,hq⟩:∃q,w2.heap.size=q:=⟨_,rfl⟩
 rw[hq]at H2;by_cases c1:k=1\/k=2
 .rcases c1 with rfl|rfl
  all_goals
   go_wp2_with fail;rw[hq]at*;have H3:=H2.I n;generalize w2.alloc (c_ #[i_ j_ _,i_ j_ n,i_ j_ 0,t_ ⟨#[]⟩] 217)=X at*;have uL:da (fO r a len cap w X q _ n 0 ⟨#[]⟩):=H3;clear H3;refine(dh r a len cap 5 _ hl zw zw uL.I.rd).mono ?_;rintro e w3 ⟨b,b0,b1,rfl,hb3,hr3⟩;obtain⟨n2,hn2⟩:∃n2:Int,n2=1+b:=⟨_,rfl⟩
   have g1:IntKind.i64.wrap (1+b)=n2:=by rw[K8,hn2];omega
   have g2:IntKind.i64.wrap n2=n2:=Zca
   have g3:wrap64 n2=n2:=Zc8
   have H4:da (fO r a len cap w w3 q _ n 0 ⟨#[]⟩):=uL.I.move hb3 hr3;have H5:da (fO r a len cap w (w3.setCell ⟨q,1,n_⟩ (i_ j_ n2)) q _ n2 0 ⟨#[]⟩):=H4.I.set rfl;clear hn2 hb3 hr3 uL;obtain⟨⟨o0,o1,o2,o3⟩,⟨r0,r1,r2,r3⟩,fD,fB⟩:=H4.I.cells;have q0:=fD 0;have q1:=fD 1;have q2:=fD 2;have q3:=fD 3;have y0:=fB 0;have y1:=fB 1;have y2:=fB 2;have y3:=fB 3;have hlt:=H4.I.lt;have hne:w.heap.size≠q:=zw
   have mD:q≠w.heap.size:=zw
   clear fD fB;go_wp2_with fail;clear o0 o1 o2 o3 r0 r1 r2 r3 q0 q1 q2 q3 y0 y1 y2 y3 hlt hne mD;refine(jt r a len cap 60 _ hl zw zw H5.I.rd).mono ?_;rintro e w8 ⟨bb,rfl,Aq,BM⟩;have H8:da (fO r a len cap w w8 q _ n2 0 ⟨#[]⟩):=H5.I.move Aq BM;clear Aq BM H5;cases bb with
   |false=>
    obtain⟨⟨o0,o1,o2,o3⟩,⟨r0,r1,r2,r3⟩,fD,fB⟩:=H8.I.cells;have q0:=fD 0;have q1:=fD 1;have q2:=fD 2;have q3:=fD 3;have y0:=fB 0;have y1:=fB 1;have y2:=fB 2;have y3:=fB 3;have hlt:=H8.I.lt;have hne:w.heap.size≠q:=zw
    have mD:q≠w.heap.size:=zw
    clear fD fB;go_wp2;refine KT (K9 results136 _ _ w.heap.size 217 _ (0,0) _ (by rfl) H8.I.ends.1 underlying217 rfl jy) rfl ?_;exact⟨(_,n2,0,⟨#[]⟩),Ky _,rfl,H8.I.ends.2.1,H8.I.ends.2.2⟩
   |true=>
    go_wp2_with fail;refine(pj r a len cap (-1) 9 _ hl zw zw zw H8.I.rd).mono ?_;rintro e w9 ⟨VX,rfl,kN,zT⟩;have YU:da (fO r a len cap w w9 q _ n2 0 ⟨#[]⟩):=H8.I.move kN zT;have HA:da (fO r a len cap w (w9.setCell ⟨q,2,n_⟩ (i_ j_ VX)) q _ n2 VX ⟨#[]⟩):=YU.I.set rfl;clear kN zT H8;obtain⟨⟨o0,o1,o2,o3⟩,⟨r0,r1,r2,r3⟩,fD,fB⟩:=YU.I.cells;have q0:=fD 0;have q1:=fD 1;have q2:=fD 2;have q3:=fD 3;have y0:=fB 0;have y1:=fB 1;have y2:=fB 2;have y3:=fB 3;have hlt:=YU.I.lt;have hne:w.heap.size≠q:=zw
    have mD:q≠w.heap.size:=zw
    clear fD fB;go_wp2;refine KT (K9 results136 _ _ w.heap.size 217 _ (0,0) _ (by rfl) HA.I.ends.1 underlying217 rfl jy) rfl ?_;exact⟨(_,n2,VX,⟨#[]⟩),Ky _,rfl,HA.I.ends.2.1,HA.I.ends.2.2⟩
 by_cases c2:k=3\/k=7\/k=9\/k=12
 .rcases c2 with rfl|rfl|rfl|rfl
  all_goals
   go_wp2_with fail;rw[hq]at*;have H3:=H2.I n;generalize w2.alloc (c_ #[i_ j_ _,i_ j_ n,i_ j_ 0,t_ ⟨#[]⟩] 217)=X at*;have uL:da (fO r a len cap w X q _ n 0 ⟨#[]⟩):=H3;clear H3;refine(ajJ r a len cap _ hl uL.I.rd).mono ?_;rintro e w3 ⟨b,rfl,hb3,hr3⟩;have H4:da (fO r a len cap w w3 q _ n 0 ⟨#[]⟩):=uL.I.move hb3 hr3;have H5:da (fO r a len cap w (w3.setCell ⟨q,2,n_⟩ (i_ j_ b)) q _ n b ⟨#[]⟩):=H4.I.set rfl;clear hb3 hr3 uL;obtain⟨⟨o0,o1,o2,o3⟩,⟨r0,r1,r2,r3⟩,fD,fB⟩:=H4.I.cells;have q0:=fD 0;have q1:=fD 1;have q2:=fD 2;have q3:=fD 3;have y0:=fB 0;have y1:=fB 1;have y2:=fB 2;have y3:=fB 3;have hlt:=H4.I.lt;have hne:w.heap.size≠q:=zw
   have mD:q≠w.heap.size:=zw
   clear fD fB;go_wp2_with fail;clear o0 o1 o2 o3 r0 r1 r2 r3 q0 q1 q2 q3 y0 y1 y2 y3 hlt hne mD;refine(jt r a len cap 60 _ hl zw zw H5.I.rd).mono ?_;rintro e w8 ⟨bb,rfl,Aq,BM⟩;have H8:da (fO r a len cap w w8 q _ n b ⟨#[]⟩):=H5.I.move Aq BM;clear Aq BM H5;cases bb with
   |false=>
    obtain⟨⟨o0,o1,o2,o3⟩,⟨r0,r1,r2,r3⟩,fD,fB⟩:=H8.I.cells;have q0:=fD 0;have q1:=fD 1;have q2:=fD 2;have q3:=fD 3;have y0:=fB 0;have y1:=fB 1;have y2:=fB 2;have y3:=fB 3;have hlt:=H8.I.lt;have hne:w.heap.size≠q:=zw
    have mD:q≠w.heap.size:=zw
    clear fD fB;go_wp2;refine KT (K9 results136 _ _ w.heap.size 217 _ (0,0) _ (by rfl) H8.I.ends.1 underlying217 rfl jy) rfl ?_;exact⟨(_,n,b,⟨#[]⟩),Ky _,rfl,H8.I.ends.2.1,H8.I.ends.2.2⟩
   |true=>
    go_wp2_with fail;refine(pj r a len cap (-1) 9 _ hl zw zw zw H8.I.rd).mono ?_;rintro e w9 ⟨VX,rfl,kN,zT⟩;have YU:da (fO r a len cap w w9 q _ n b ⟨#[]⟩):=H8.I.move kN zT;exact rt
 by_cases c3:k=8
 .subst c3
  go_wp2_with fail;rw[hq]at*;have H3:=H2.I n;generalize w2.alloc (c_ #[i_ j_ _,i_ j_ n,i_ j_ 0,t_ ⟨#[]⟩] 217)=X at*;have uL:da (fO r a len cap w X q _ n 0 ⟨#[]⟩):=H3;clear H3;refine(ajJ r a len cap _ hl uL.I.rd).mono ?_;rintro e w3 ⟨b,rfl,hb3,hr3⟩;have H4:da (fO r a len cap w w3 q _ n 0 ⟨#[]⟩):=uL.I.move hb3 hr3;have H5:da (fO r a len cap w (w3.setCell ⟨q,2,n_⟩ (i_ j_ b)) q _ n b ⟨#[]⟩):=H4.I.set rfl;clear hb3 hr3 uL;obtain⟨⟨o0,o1,o2,o3⟩,⟨r0,r1,r2,r3⟩,fD,fB⟩:=H4.I.cells;have q0:=fD 0;have q1:=fD 1;have q2:=fD 2;have q3:=fD 3;have y0:=fB 0;have y1:=fB 1;have y2:=fB 2;have y3:=fB 3;have hlt:=H4.I.lt;have hne:w.heap.size≠q:=zw
  have mD:q≠w.heap.size:=zw
  clear fD fB;go_wp2_with fail;clear o0 o1 o2 o3 r0 r1 r2 r3 q0 q1 q2 q3 y0 y1 y2 y3 hlt hne mD;generalize w3.setCell ⟨q,2,n_⟩ (i_ j_ b)=X3 at*;refine(B0 r a len cap _ hl H5.I.rd).mono ?_;rintro e w4 ⟨tx,htx,rfl,hb4,hr4⟩;have H6:da (fO r a len cap w w4 q _ n b ⟨#[]⟩):=H5.I.move hb4 hr4;have H7:da (fO r a len cap w (w4.setCell ⟨q,3,n_⟩ (t_ tx)) q _ n b tx):=H6.I.set rfl;clear hb4 hr4 H5;obtain⟨⟨o0,o1,o2,o3⟩,⟨r0,r1,r2,r3⟩,fD,fB⟩:=H6.I.cells;have q0:=fD 0;have q1:=fD 1;have q2:=fD 2;have q3:=fD 3;have y0:=fB 0;have y1:=fB 1;have y2:=fB 2;have y3:=fB 3;have hlt:=H6.I.lt;have hne:w.heap.size≠q:=zw
  have mD:q≠w.heap.size:=zw
  clear fD fB;go_wp2_with fail;clear o0 o1 o2 o3 r0 r1 r2 r3 q0 q1 q2 q3 y0 y1 y2 y3 hlt hne mD;refine(jt r a len cap 60 _ hl zw zw H7.I.rd).mono ?_;rintro e w8 ⟨bb,rfl,Aq,BM⟩;have H8:da (fO r a len cap w w8 q _ n b tx):=H7.I.move Aq BM;clear Aq BM H7;cases bb with
  |false=>
   obtain⟨⟨o0,o1,o2,o3⟩,⟨r0,r1,r2,r3⟩,fD,fB⟩:=H8.I.cells;have q0:=fD 0;have q1:=fD 1;have q2:=fD 2;have q3:=fD 3;have y0:=fB 0;have y1:=fB 1;have y2:=fB 2;have y3:=fB 3;have hlt:=H8.I.lt;have hne:w.heap.size≠q:=zw
   have mD:q≠w.heap.size:=zw
   clear fD fB;go_wp2;refine KT (K9 results136 _ _ w.heap.size 217 _ (0,0) _ (by rfl) H8.I.ends.1 underlying217 rfl jy) rfl ?_;exact⟨(_,n,b,tx),htx,rfl,H8.I.ends.2.1,H8.I.ends.2.2⟩
  |true=>
   go_wp2_with fail;refine(pj r a len cap (-1) 9 _ hl zw zw zw H8.I.rd).mono ?_;rintro e w9 ⟨VX,rfl,kN,zT⟩;have YU:da (fO r a len cap w w9 q _ n b tx):=H8.I.move kN zT;exact te
 by_cases c4:k=10\/k=13
 .rcases c4 with rfl|rfl
  all_goals
   go_wp2_with fail;rw[hq]at*;have H3:=H2.I n;generalize w2.alloc (c_ #[i_ j_ _,i_ j_ n,i_ j_ 0,t_ ⟨#[]⟩] 217)=X at*;have uL:da (fO r a len cap w X q _ n 0 ⟨#[]⟩):=H3;clear H3;refine(B0 r a len cap _ hl uL.I.rd).mono ?_;rintro e w4 ⟨tx,htx,rfl,hb4,hr4⟩;have H6:da (fO r a len cap w w4 q _ n 0 ⟨#[]⟩):=uL.I.move hb4 hr4;have H7:da (fO r a len cap w (w4.setCell ⟨q,3,n_⟩ (t_ tx)) q _ n 0 tx):=H6.I.set rfl;clear hb4 hr4 uL;obtain⟨⟨o0,o1,o2,o3⟩,⟨r0,r1,r2,r3⟩,fD,fB⟩:=H6.I.cells;have q0:=fD 0;have q1:=fD 1;have q2:=fD 2;have q3:=fD 3;have y0:=fB 0;have y1:=fB 1;have y2:=fB 2;have y3:=fB 3;have hlt:=H6.I.lt;have hne:w.heap.size≠q:=zw
   have mD:q≠w.heap.size:=zw
   clear fD fB;go_wp2_with fail;clear o0 o1 o2 o3 r0 r1 r2 r3 q0 q1 q2 q3 y0 y1 y2 y3 hlt hne mD;refine(jt r a len cap 60 _ hl zw zw H7.I.rd).mono ?_;rintro e w8 ⟨bb,rfl,Aq,BM⟩;have H8:da (fO r a len cap w w8 q _ n 0 tx):=H7.I.move Aq BM;clear Aq BM H7;cases bb with
   |false=>
    obtain⟨⟨o0,o1,o2,o3⟩,⟨r0,r1,r2,r3⟩,fD,fB⟩:=H8.I.cells;have q0:=fD 0;have q1:=fD 1;have q2:=fD 2;have q3:=fD 3;have y0:=fB 0;have y1:=fB 1;have y2:=fB 2;have y3:=fB 3;have hlt:=H8.I.lt;have hne:w.heap.size≠q:=zw
    have mD:q≠w.heap.size:=zw
    clear fD fB;go_wp2;refine KT (K9 results136 _ _ w.heap.size 217 _ (0,0) _ (by rfl) H8.I.ends.1 underlying217 rfl jy) rfl ?_;exact⟨(_,n,0,tx),htx,rfl,H8.I.ends.2.1,H8.I.ends.2.2⟩
   |true=>
    go_wp2_with fail;refine(pj r a len cap (-1) 9 _ hl zw zw zw H8.I.rd).mono ?_;rintro e w9 ⟨VX,rfl,kN,zT⟩;have YU:da (fO r a len cap w w9 q _ n 0 tx):=H8.I.move kN zT;exact te
 by_cases c5:k=17
 .subst c5
  go_wp2_with fail;rw[hq]at*;have H3:=H2.I 0;generalize w2.alloc (c_ #[i_ j_ _,i_ j_ 0,i_ j_ 0,t_ ⟨#[]⟩] 217)=X at*;have uL:da (fO r a len cap w X q _ 0 0 ⟨#[]⟩):=H3;clear H3;refine(jt r a len cap 60 _ hl zw zw uL.I.rd).mono ?_;rintro e w8 ⟨bb,rfl,Aq,BM⟩;have H8:da (fO r a len cap w w8 q _ 0 0 ⟨#[]⟩):=uL.I.move Aq BM;clear Aq BM uL;cases bb with
  |false=>
   obtain⟨⟨o0,o1,o2,o3⟩,⟨r0,r1,r2,r3⟩,fD,fB⟩:=H8.I.cells;have q0:=fD 0;have q1:=fD 1;have q2:=fD 2;have q3:=fD 3;have y0:=fB 0;have y1:=fB 1;have y2:=fB 2;have y3:=fB 3;have hlt:=H8.I.lt;have hne:w.heap.size≠q:=zw
   have mD:q≠w.heap.size:=zw
   clear fD fB;go_wp2;refine KT (K9 results136 _ _ w.heap.size 217 _ (0,0) _ (by rfl) H8.I.ends.1 underlying217 rfl jy) rfl ?_;exact⟨(_,0,0,⟨#[]⟩),Ky _,rfl,H8.I.ends.2.1,H8.I.ends.2.2⟩
  |true=>
   go_wp2_with fail;refine(pj r a len cap (-1) 9 _ hl zw zw zw H8.I.rd).mono ?_;rintro e w9 ⟨VX,rfl,kN,zT⟩;have YU:da (fO r a len cap w w9 q _ 0 0 ⟨#[]⟩):=H8.I.move kN zT;have HA:da (fO r a len cap w (w9.setCell ⟨q,2,n_⟩ (i_ j_ VX)) q _ 0 VX ⟨#[]⟩):=YU.I.set rfl;clear kN zT H8;obtain⟨⟨o0,o1,o2,o3⟩,⟨r0,r1,r2,r3⟩,fD,fB⟩:=YU.I.cells;have q0:=fD 0;have q1:=fD 1;have q2:=fD 2;have q3:=fD 3;have y0:=fB 0;have y1:=fB 1;have y2:=fB 2;have y3:=fB 3;have hlt:=YU.I.lt;have hne:w.heap.size≠q:=zw
   have mD:q≠w.heap.size:=zw
   clear fD fB;go_wp2;refine KT (K9 results136 _ _ w.heap.size 217 _ (0,0) _ (by rfl) HA.I.ends.1 underlying217 rfl jy) rfl ?_;exact⟨(_,0,VX,⟨#[]⟩),Ky _,rfl,HA.I.ends.2.1,HA.I.ends.2.2⟩
 have d1:(k==1)=false:=ZbI
 have d2:(k==2)=false:=ZbI
 have d3:(k==3)=false:=ZbI
 have d7:(k==7)=false:=ZbI
 have d9:(k==9)=false:=ZbI
 have d12:(k==12)=false:=ZbI
 have d8:(k==8)=false:=ZbI
 have tH:(k==10)=false:=ZbI
 have d13:(k==13)=false:=ZbI
 have d17:(k==17)=false:=ZbI
 clear c1 c2 c3 c4 c5;go_wp2_with fail;rw[hq]at*;have H3:=H2.I n;generalize w2.alloc (c_ #[i_ j_ _,i_ j_ n,i_ j_ 0,t_ ⟨#[]⟩] 217)=X at*;have uL:da (fO r a len cap w X q _ n 0 ⟨#[]⟩):=H3;clear H3;refine(jt r a len cap 60 _ hl zw zw uL.I.rd).mono ?_;rintro e w8 ⟨bb,rfl,Aq,BM⟩;have H8:da (fO r a len cap w w8 q _ n 0 ⟨#[]⟩):=uL.I.move Aq BM;clear Aq BM uL;cases bb with
 |false=>
  obtain⟨⟨o0,o1,o2,o3⟩,⟨r0,r1,r2,r3⟩,fD,fB⟩:=H8.I.cells;have q0:=fD 0;have q1:=fD 1;have q2:=fD 2;have q3:=fD 3;have y0:=fB 0;have y1:=fB 1;have y2:=fB 2;have y3:=fB 3;have hlt:=H8.I.lt;have hne:w.heap.size≠q:=zw
  have mD:q≠w.heap.size:=zw
  clear fD fB;go_wp2;refine KT (K9 results136 _ _ w.heap.size 217 _ (0,0) _ (by rfl) H8.I.ends.1 underlying217 rfl jy) rfl ?_;exact⟨(_,n,0,⟨#[]⟩),Ky _,rfl,H8.I.ends.2.1,H8.I.ends.2.2⟩
 |true=>
  go_wp2_with fail;refine(pj r a len cap (-1) 9 _ hl zw zw zw H8.I.rd).mono ?_;rintro e w9 ⟨VX,rfl,kN,zT⟩;have YU:da (fO r a len cap w w9 q _ n 0 ⟨#[]⟩):=H8.I.move kN zT;exact rt
def gO:List dN->List v_
 |[]=>[]
 |o::os=>i_ j_ o.1::i_ j_ o.2.1::i_ j_ o.2.2.1::t_ o.2.2.2::gO os
def pK:∀(os os':List dN),gO (os++os')=gO os++gO os'
 |[],_=>rfl
 |o::os,os'=>by simp[gO,pK os os']
def xU:∀(os:List dN)(j:Nat),j<os.length*4->(gO os)[j]? =o_ (xe (Cd os) (Cg os) (Ea os) (Ce os) j)
 |[],j,h=>Zd2
 |o::os,j,h=>by
  have hk:∀i,Cd (o::os) (i+1)=Cd os i/\Cg (o::os) (i+1)=Cg os i/\Ea (o::os) (i+1)=Ea os i/\Ce (o::os) (i+1)=Ce os i:=λi=>by simp[Cd,Cg,Ea,Ce]
  match j,h with
  |0,_=>simp[gO,xe,Cd]
  |1,_=>simp[gO,xe,Cg]
  |2,_=>simp[gO,xe,Ea]
  |3,_=>simp[gO,xe,Ce]
  |j+4,h=>
   have ih:=xU os j (by simp at h;omega);have e1:(j+4)/4=j/4+1:=zw
   have e2:(j+4)%4=j%4:=zw
   obtain⟨h1,h2,h3,h4⟩:=hk (j/4);simp only[gO,List.getElem?_cons_succ];rw[ih];simp only[xe,e1,e2,h1,h2,h3,h4]
def Fa {w:w_}{bj n:Nat}{v:v_}{os:List dN}(h:w.ownsRow bj 217 4 v n (gO os))(hn:n=os.length):(v=s_ n_ 0 0/\os.length=0)\/ ∃g c,v=s_ (o_ ⟨g,0,n_⟩) os.length c/\bj<=g/\y9 w g os/\∃cur:Array v_,w.heap[g]? =o_ (c_ cur 217)/\os.length*4<=cur.size/\∀j,j<os.length*4->cur[j]? =o_ (xe (Cd os) (Cg os) (Ea os) (Ce os) j):=by
 subst hn;rcases h.2 with⟨h1,h2⟩|⟨g,cap,cur,h1,h2,h3,h4,h5,h6,h7⟩
 .exact .inl ⟨h1,h2⟩
 .have key:∀j,j<os.length*4->cur[j]? =o_ (xe (Cd os) (Cg os) (Ea os) (Ce os) j):=λj hj=>by
   rw[<-xU os j hj,<-h7,List.getElem?_take_of_lt zw];simp
  refine .inr ⟨g,cap,h1,h2,⟨(J2.1 h3).1,λj hj=>?_⟩,cur,h3,zw,key⟩;rw[K5 _ _ _ _ _ _ h3];exact key j hj
def xh {w:w_}{bj n:Nat}{v:v_}{xs:List v_}(h:w.ownsRow bj 217 4 v (n+1) xs):∃g c,v=s_ (o_ ⟨g,0,n_⟩) (n+1) c:=by
 rcases h.2 with⟨_,h2⟩|⟨g,cap,cur,h1,_⟩
 .omega
 .exact ⟨g,cap,h1⟩
def Ii:(Tryz.prog.info? 217).map (λi=>(i.zero,i.size,i.bytes))=o_ (o_ (a_ #[i_ j_ 0,i_ j_ 0,i_ j_ 0,t_ ⟨#[]⟩]),4,40):=ZbG
def nt (os:List dN)(o:dN):(os++[o]).length=os.length+1:=zy
structure mM (r:Nat)(a:Option d_)(len cap:Nat)(w x:w_)(g c:Nat)(os:List dN):Prop where
 own:x.ownsRow w.heap.size 217 4 (s_ (o_ ⟨g,0,n_⟩) os.length c) os.length (gO os)
 but:gG r w x
 rd:Rd r a len cap x
 st:Rd r a len cap w
 sz:∀o∈os,o.2.2.2.size<=3
def mM.form {r:Nat}{a:Option d_}{len cap:Nat}{w x:w_}{g c:Nat}{os:List dN}(h:mM r a len cap w x g c os):w.heap.size<=g/\y9 x g os:=by
 rcases Fa h.own rfl with⟨h1,_⟩|⟨g',c',h1,h2,h3,_⟩
 .cases h1
 .cases h1
  exact⟨h2,h3⟩
def mM.move {r:Nat}{a:Option d_}{len cap:Nat}{w x y:w_}{g c:Nat}{os:List dN}(h:mM r a len cap w x g c os)(hb:gG r x y)(hr:Rd r a len cap y):mM r a len cap w y g c os:=
 ⟨AJ h.own hb h.st.lt,h.but.trans hb,hr,h.st,h.sz⟩
def mM.alloc {r:Nat}{a:Option d_}{len cap:Nat}{w x:w_}{g c:Nat}{os:List dN}(h:mM r a len cap w x g c os)(o:Obj):mM r a len cap w (x.alloc o) g c os:=
 h.move ((gG.refl _ _).alloc _) (h.rd.below ((Kp _ _).alloc (Ki _) _))
def mM.next {r:Nat}{a:Option d_}{len cap:Nat}{w x w5:w_}{g c g' c':Nat}{os:List dN}{o:dN}(h:mM r a len cap w x g c os)(hz:o.2.2.2.size<=3)(hg:x.grownBy w5 (o_ g))
  (hown:w5.ownsRow w.heap.size 217 4 (s_ (o_ ⟨g',0,n_⟩) (os.length+1) c') (os.length+1) (gO os++[i_ j_ o.1,i_ j_ o.2.1,i_ j_ o.2.2.1,t_ o.2.2.2])):mM r a len cap w w5 g' c' (os++[o]):=by
 have hf:=h.form.1;have hb:gG r w w5:=h.but.grown hg (λk hk=>by cases hk;exact hf);obtain⟨p,hp,hrow⟩:=h.rd.1;have hrl:=h.st.lt;have hrow5:w5.heap[r]? =o_ (c_ #[s_ a len cap,i_ j_ p] 142):=(hg.block r (J2.1 hrow).1 (λe=>by cases e;omega)).trans hrow;refine⟨?_,hb,⟨⟨p,hp,hrow5⟩,h.st.2.but hb⟩,h.st,λq hq=>?_⟩
 .rw [pK,nt]
  simpa[gO]using hown
 .rcases Kg.1 hq with hq|hq
  .exact h.sz q hq
  .rw [KB]at hq;subst hq;exact hz
def uz (r:Nat)(a:Option d_)(len cap:Nat)(w:w_)(hl:len<=1048576)(h:Rd r a len cap w):
  k_ J3 93 #[p_ (o_ ⟨r,0,n_⟩)] w λe w'=>∃(g c:Nat)(os:List dN),e=r_ (s_ (o_ ⟨g,0,n_⟩) os.length c)/\os.length<=6/\mM r a len cap w w' g c os:=by
 obtain⟨i0,hi,e0⟩:=Kw.1 Ii;simp only[Kx]at e0;have HI:da (Tryz.prog.info? 217=o_ i0/\i0.zero=o_ (a_ #[i_ j_ 0,i_ j_ 0,i_ j_ 0,t_ ⟨#[]⟩])/\i0.size=4/\i0.bytes=40):=⟨hi,e0⟩
 clear hi e0;have HA:da (mM r a len cap w (w.alloc (c_ #[] 217)) w.heap.size 0 []):=
  ⟨⟨rfl,.inr ⟨w.heap.size,0,#[],rfl,Ki _,Kj _ _,Ki _,Ky _,rfl,rfl⟩⟩,(gG.refl _ _).alloc _,h.below ((Kp _ _).alloc (Ki _) _),h,λo ho=>by simp at ho⟩
 clear h
 go_enter func93,ntmps93
 go_wp2_with fail;generalize w.alloc (c_ #[] 217)=W0 at*;generalize hgs:w.heap.size=g0 at*;refine(dh r a len cap 5 _ hl zw zw HA.I.rd).mono ?_;rintro e w1 ⟨v,v0,v1,rfl,hb1,hr1⟩;have H1:da (mM r a len cap w w1 g0 0 []):=HA.I.move hb1 hr1;have e1:IntKind.i64.wrap (1+v)=1+v:=Zca
 clear hb1 hr1 HA;go_wp2_with fail
 go_loopw[3,4] (λv i wr=>∃(g c:Nat)(os:List dN)(m:Int),v=s_ (o_ ⟨g,0,n_⟩) os.length c/\i=i_ j_ m/\0<=m/\(os.length:Int)+m<=5/\da (mM r a len cap w wr g c os)) (λ_ i _=>(intOf i).toNat)
 case atStart=>exact⟨g0,0,[],1+v,rfl,rfl,zw,ZbI,H1⟩
 case round=>
  clear H1;obtain⟨g,c,os,m,rfl,rfl,hm0,hm5,H⟩:=hrel;by_cases hm:0<m
  .go_wp2_with fail
   refine(op_any r a len cap _ hl H.I.rd).mono ?_;rintro e w4 ⟨o,hoz,rfl,hb4,hr4⟩;have H4:da (mM r a len cap w w4 g c os):=H.I.move hb4 hr4;have HX:da (mM r a len cap w (w4.alloc (c_ #[i_ j_ o.1,i_ j_ o.2.1,i_ j_ o.2.2.1,t_ o.2.2.2] 217)) g c os):=H4.I.alloc _;have e2:IntKind.i64.wrap (m-1)=m-1:=Zca
   have hw4:=H4.I.but.size;clear hb4 hr4 H;go_wp2_with(at_builtin;refine KD _ rfl _ _ 123 rfl w.heap.size 217 i0 (a_ #[i_ j_ 0,i_ j_ 0,i_ j_ 0,t_ ⟨#[]⟩]) 4 40 underlying123 HI.I.1 HI.I.2.1 HI.I.2.2.1 HI.I.2.2.2 rfl (by decide) (s_ (o_ ⟨g,0,n_⟩) os.length c) os.length (gO os) rfl HX.I.own ⟨w4.heap.size,0,n_⟩ 1 1 [i_ j_ o.1,i_ j_ o.2.1,i_ j_ o.2.2.1,t_ o.2.2.2] (by rfl) rfl (KE (cs:=#[i_ j_ o.1,i_ j_ o.2.1,i_ j_ o.2.2.1,t_ o.2.2.2]) (t:=217) (fr:=(0,0)) (Kj w4 _)) Zcw Zb2 zw ZbI ?_;intro v' w5 hown' hgrow hnil jV;obtain⟨gg,cp,rfl⟩:=xh hown';have HN:da (mM r a len cap w w5 gg cp (os++[o])):=HX.I.next hoz hgrow hown';clear hown' hgrow hnil jV HX);go_roundw
   case rel=>exact⟨gg,cp,os++[o],m-1,by rw[nt],rfl,zw,by rw[nt];omega,HN⟩
   case measure=>exact Zcc
  .go_wp2_with fail
   refine(jt r a len cap 3 _ hl zw zw H.I.rd).mono ?_;rintro e w3 ⟨bb,rfl,hb3,hr3⟩;have H3:da (mM r a len cap w w3 g c os):=H.I.move hb3 hr3;clear hb3 hr3 H;cases bb with
   |false=>
    go_wp2;go_ret;exact⟨g,c,os,rfl,zw,H3.I⟩
   |true=>
    have HX:da (mM r a len cap w (w3.alloc (c_ #[i_ j_ 17,i_ j_ 0,i_ j_ 0,t_ ⟨#[]⟩] 217)) g c os):=H3.I.alloc _;have hw4:=H3.I.but.size;go_wp2_with(at_builtin;refine KD _ rfl _ _ 123 rfl w.heap.size 217 i0 (a_ #[i_ j_ 0,i_ j_ 0,i_ j_ 0,t_ ⟨#[]⟩]) 4 40 underlying123 HI.I.1 HI.I.2.1 HI.I.2.2.1 HI.I.2.2.2 rfl (by decide) (s_ (o_ ⟨g,0,n_⟩) os.length c) os.length (gO os) rfl HX.I.own ⟨w3.heap.size,0,n_⟩ 1 1 [i_ j_ 17,i_ j_ 0,i_ j_ 0,t_ ⟨#[]⟩] (by rfl) rfl (KE (cs:=#[i_ j_ 17,i_ j_ 0,i_ j_ 0,t_ ⟨#[]⟩]) (t:=217) (fr:=(0,0)) (Kj w3 _)) Zcw Zb2 zw ZbI ?_;intro v' w5 hown' hgrow hnil jV;obtain⟨gg,cp,rfl⟩:=xh hown';have HN:da (mM r a len cap w w5 gg cp (os++[(17,0,0,⟨#[]⟩)])):=HX.I.next (Ky 3) hgrow hown';clear hown' hgrow hnil jV HX);go_ret;exact⟨gg,cp,os++[(17,0,0,⟨#[]⟩)],by rw[nt];rfl,by rw[nt];omega,HN.I⟩
end
section
attribute [local go_sem ↓] Go.wp_at_zero Go.wp_at_succ
def ak6 :(Tryz.prog.info? 62).map (λi=>(i.zero,i.size,i.bytes))=o_ (o_ (a_ #[i_ j_ 0,i_ j_ 0,i_ j_ 0]),3,24):=by kernel_rfl
def akE (xs:List v_):Prop:=∀u∈xs,∃z:Int,u=i_ j_ z/\ -1000<=z/\z<=1000
def aj9 {w:w_}{bj e size n b:Nat}{v:v_}{xs:List v_}(h:w.ownsRow bj e size v n xs)(hb:b<bj):o_ b≠v.ownBlock:=by
  rcases h.2 with⟨hv,_⟩|⟨g,cap,cur,hv,hg,_⟩
  . subst hv;simp[Value.ownBlock]
  . subst hv;simp[Value.ownBlock];omega
structure Made (r:Nat)(a:Option d_)(len cap:Nat)(w wr:w_)(mj:Int)(v:v_)(k:Nat)(xs:List v_):Prop where
  I:wr.heap[w.heap.size]? =o_ (c_ #[i_ j_ 0,s_ n_ 0 0] 26)
  fr:wr.heap[w.heap.size+1]? =o_ (c_ #[i_ j_ mj,v] 26)
  own:wr.ownsRow (w.heap.size+2) 62 3 v k xs
  small:akE xs
  but:gG r w wr
  rd:Rd r a len cap wr
  size:w.heap.size+2<=wr.heap.size
def Made.move {r:Nat}{a:Option d_}{len cap:Nat}{w wr w':w_}{mj:Int}{v:v_}{k:Nat}{xs:List v_}(m:Made r a len cap w wr mj v k xs)(hr:r<w.heap.size)(hb:gG r wr w')(rd:Rd r a len cap w'):Made r a len cap w w' mj v k xs:=by
  have s1:=m.size;have s2:=hb.size;exact⟨(hb.block _ zw zw).trans m.I,(hb.block _ zw zw).trans m.fr,AJ m.own hb zw,m.small,m.but.trans hb,rd,by omega⟩
def Made.cell {r:Nat}{a:Option d_}{len cap:Nat}{w wr:w_}{mj:Int}{v:v_}{k:Nat}{xs:List v_}(m:Made r a len cap w wr mj v k xs):wr.cell? ⟨w.heap.size+1,1,n_⟩=o_ v:=by
  have:=m.fr;simp[World.cell?,this]
def Made.akK {r:Nat}{a:Option d_}{len cap:Nat}{w wr w5:w_}{mj:Int}{v:v_}{k:Nat}{xs:List v_}{o:Obj}(m:Made r a len cap w wr mj v k xs)(hg:(wr.alloc o).grownBy w5 v.ownBlock):w5.heap[w.heap.size+1]? =o_ (c_ #[i_ j_ mj,v] 26):=by
  have s1:=m.size;exact((hg.block _ ZbI (aj9 m.own zw)).trans (PU zw)).trans m.fr
def Made.push {r:Nat}{a:Option d_}{len cap:Nat}{w wr w5:w_}{mj:Int}{v v':v_}{k:Nat}{xs:List v_}{o:Obj}{x y z:Int}(m:Made r a len cap w wr mj v k xs)(h:Rd r a len cap w)(hg:(wr.alloc o).grownBy w5 v.ownBlock)
    (ho:w5.ownsRow (w.heap.size+2) 62 3 v' (k+1) (xs++[i_ j_ x,i_ j_ y,i_ j_ z]))(hx: -1000<=x/\x<=1000)(hy: -1000<=y/\y<=1000)(hz: -1000<=z/\z<=1000):
    Made r a len cap w (w5.setCell ⟨w.heap.size+1,1,n_⟩ v') mj v' (k+1) (xs++[i_ j_ x,i_ j_ y,i_ j_ z]):=by
  have s1 := m.size;have s2 := hg.size;rw [RR] at s2;have hr := h.lt;have b1 : gG r w w5 := (m.but.alloc o).grown hg (λq hq=>by
    rcases Nat.lt_or_ge q (w.heap.size+2)with hlt|hge
    . exact absurd hq.symm (aj9 m.own hlt)
    . omega)
  have b2:gG r w (w5.setCell ⟨w.heap.size+1,1,n_⟩ v'):=b1.sF _ _ _ zw;have k1:w5.heap[r]? =wr.heap[r]?:=(hg.block _ ZbI (aj9 m.own zw)).trans (PU zw);have k0:w5.heap[w.heap.size]? =wr.heap[w.heap.size]?:=(hg.block _ ZbI (aj9 m.own zw)).trans (PU zw);refine⟨?_,?_,?_,?_,b2,⟨?_,h.2.but b2⟩,by simp;omega⟩
  . exact((K6 _ _ _ _ zy).trans k0).trans m.I
  . exact K7 _ _ _ _ _ _ (m.akK hg)
  . exact AJ (r:=w.heap.size+1) ho ((gG.refl _ _).setCell _ _) zw
  . intro u hu
    rcases Kg.1 hu with hu|hu
    . exact m.small u hu
    . simp at hu
      rcases hu with rfl|rfl|rfl
      . exact⟨_,rfl,hx⟩
      . exact⟨_,rfl,hy⟩
      . exact⟨_,rfl,hz⟩
  . obtain⟨p,hp,e⟩:=m.rd.1
    exact⟨p,hp,((K6 _ _ _ _ ZbI).trans k1).trans e⟩
def Made.major {r:Nat}{a:Option d_}{len cap:Nat}{w wr:w_}{mj:Int}{v:v_}{k:Nat}{xs:List v_}(m:Made r a len cap w wr mj v k xs)(h:Rd r a len cap w)(y:Int):Made r a len cap w (wr.setCell ⟨w.heap.size+1,0,n_⟩ (i_ j_ y)) y v k xs:=by
  have hr:=h.lt;have s1:=m.size;have b2:gG r w (wr.setCell ⟨w.heap.size+1,0,n_⟩ (i_ j_ y)):=m.but.sF _ _ _ zw;refine⟨(K6 _ _ _ _ zy).trans m.I,K7 _ _ _ _ _ _ m.fr,AJ (r:=w.heap.size+1) m.own ((gG.refl _ _).setCell _ _) zw,m.small,b2,⟨?_,h.2.but b2⟩,by simp;omega⟩;obtain⟨p,hp,e⟩:=m.rd.1;exact⟨p,hp,(K6 _ _ _ _ ZbI).trans e⟩
def Made.ends {r:Nat}{a:Option d_}{len cap:Nat}{w wr:w_}{mj:Int}{v:v_}{k:Nat}{xs:List v_}(m:Made r a len cap w wr mj v k xs)(h:Rd r a len cap w)(x y:v_):
    (((wr.setCell ⟨w.heap.size,0,n_⟩ x).setCell ⟨w.heap.size,1,n_⟩ y).ownsRow w.heap.size 62 3 v k xs/\gG r w ((wr.setCell ⟨w.heap.size,0,n_⟩ x).setCell ⟨w.heap.size,1,n_⟩ y)/\Rd r a len cap ((wr.setCell ⟨w.heap.size,0,n_⟩ x).setCell ⟨w.heap.size,1,n_⟩ y))/\
      ((wr.setCell ⟨w.heap.size,0,n_⟩ x).setCell ⟨w.heap.size,1,n_⟩ y).heap[w.heap.size]? =o_ (c_ #[x,y] 26):=by
  have hr:=h.lt;have e:∀b,b≠w.heap.size->((wr.setCell ⟨w.heap.size,0,n_⟩ x).setCell ⟨w.heap.size,1,n_⟩ y).heap[b]? =wr.heap[b]?:=λb hb=>(K6 _ _ _ _ (by simpa using hb)).trans (K6 _ _ _ _ (by simpa using hb))
  have b2:gG r w ((wr.setCell ⟨w.heap.size,0,n_⟩ x).setCell ⟨w.heap.size,1,n_⟩ y):=(m.but.sF _ _ _ zw).sF _ _ _ zw;refine⟨⟨⟨m.own.1,?_⟩,b2,?_,h.2.but b2⟩,K7 _ _ _ _ _ _ (K7 _ _ _ _ _ _ m.I)⟩
  . rcases m.own.2 with h2|⟨g,c,cur,hv,hg,hh,h5⟩
    . exact .inl h2
    . exact .inr ⟨g,c,cur,hv,by omega,(e g zw).trans hh,h5⟩
  . obtain⟨p,hp,e1⟩:=m.rd.1
    exact⟨p,hp,(e r zw).trans e1⟩
def akj :(Tryz.prog.info? 26).map (·.size)=o_ 2:=by kernel_rfl
def aln (r:Nat)(a:Option d_)(len cap:Nat)(w:w_)(x i:v_)(wr:w_):Prop:=
  ∃(k m:Nat)(at':Int)(v:v_)(xs:List v_),x=i_ j_ at'/\i=i_ j_ m/\1<=k+m/\k+m<=4/\0<=at'/\at'<=6*k/\Made r a len cap w wr 0 v k xs
def apH (r:Nat)(a:Option d_)(len cap:Nat)(w:w_)(hl:len<=1048576)(h:Rd r a len cap w):
    k_ J3 56 #[p_ (o_ ⟨r,0,n_⟩)] w λe w'=>∃(major:Int)(g n c:Nat)(xs:List v_),e=r_ (a_ #[i_ j_ major,s_ (o_ ⟨g,0,n_⟩) n c])/\(0<n/\n<=4)/\akE xs/\w'.ownsRow w.heap.size 62 3 (s_ (o_ ⟨g,0,n_⟩) n c) n xs/\gG r w w'/\Rd r a len cap w':=by
  have rl:=h.lt;obtain⟨i0,hi,e⟩:=Kw.1 ak6;simp only[Kx]at e;obtain⟨hz0,hz1,hz2⟩:=e;have HI:da (Tryz.prog.info? 62=o_ i0/\i0.zero=o_ (a_ #[i_ j_ 0,i_ j_ 0,i_ j_ 0])/\i0.size=3/\i0.bytes=24):=⟨hi,hz0,hz1,hz2⟩
  clear hi hz0 hz1 hz2
  go_enter func56,ntmps56
  go_wp2_with fail;have h2:Rd r a len cap ((w.alloc (c_ #[i_ j_ 0,s_ n_ 0 0] 26)).alloc (c_ #[i_ j_ 0,s_ n_ 0 0] 26)):=(h.below ((Kp _ _).alloc (Ki _) _)).below ((Kp _ _).alloc (Ki _) _);have b2:gG r w ((w.alloc (c_ #[i_ j_ 0,s_ n_ 0 0] 26)).alloc (c_ #[i_ j_ 0,s_ n_ 0 0] 26)):=((gG.refl _ _).alloc _).alloc _;have x0:((w.alloc (c_ #[i_ j_ 0,s_ n_ 0 0] 26)).alloc (c_ #[i_ j_ 0,s_ n_ 0 0] 26)).heap[w.heap.size]? =o_ (c_ #[i_ j_ 0,s_ n_ 0 0] 26):=(((Kp _ _).alloc (Ki _) _).block _ zy).trans (Kj w _);have x1:((w.alloc (c_ #[i_ j_ 0,s_ n_ 0 0] 26)).alloc (c_ #[i_ j_ 0,s_ n_ 0 0] 26)).heap[w.heap.size+1]? =o_ (c_ #[i_ j_ 0,s_ n_ 0 0] 26):=by have:=Kj (w.alloc (c_ #[i_ j_ 0,s_ n_ 0 0] 26)) (c_ #[i_ j_ 0,s_ n_ 0 0] 26);simpa using this
  have x2:((w.alloc (c_ #[i_ j_ 0,s_ n_ 0 0] 26)).alloc (c_ #[i_ j_ 0,s_ n_ 0 0] 26)).heap.size=w.heap.size+2:=by simp
  have HX:da (Rd r a len cap ((w.alloc (c_ #[i_ j_ 0,s_ n_ 0 0] 26)).alloc (c_ #[i_ j_ 0,s_ n_ 0 0] 26))/\gG r w ((w.alloc (c_ #[i_ j_ 0,s_ n_ 0 0] 26)).alloc (c_ #[i_ j_ 0,s_ n_ 0 0] 26))/\((w.alloc (c_ #[i_ j_ 0,s_ n_ 0 0] 26)).alloc (c_ #[i_ j_ 0,s_ n_ 0 0] 26)).heap[w.heap.size]? =o_ (c_ #[i_ j_ 0,s_ n_ 0 0] 26)/\((w.alloc (c_ #[i_ j_ 0,s_ n_ 0 0] 26)).alloc (c_ #[i_ j_ 0,s_ n_ 0 0] 26)).heap[w.heap.size+1]? =o_ (c_ #[i_ j_ 0,s_ n_ 0 0] 26)/\((w.alloc (c_ #[i_ j_ 0,s_ n_ 0 0] 26)).alloc (c_ #[i_ j_ 0,s_ n_ 0 0] 26)).heap.size=w.heap.size+2):=⟨h2,b2,x0,x1,x2⟩
  clear h2 b2 x0 x1 x2;generalize(w.alloc (c_ #[i_ j_ 0,s_ n_ 0 0] 26)).alloc (c_ #[i_ j_ 0,s_ n_ 0 0] 26)=W0 at*;refine(dh r a len cap 4 W0 hl zw zw HX.I.1).mono ?_;rintro e w1 ⟨c,c0,c1,rfl,hb1,hr1⟩;have HY:da (Rd r a len cap w1/\gG r w w1/\w1.heap[w.heap.size]? =o_ (c_ #[i_ j_ 0,s_ n_ 0 0] 26)/\w1.heap[w.heap.size+1]? =o_ (c_ #[i_ j_ 0,s_ n_ 0 0] 26)/\w.heap.size+2<=w1.heap.size):=by
    obtain⟨h2,b2,x0,x1,x2⟩:=HX.I;have:=hb1.size;exact⟨hr1,b2.trans hb1,(hb1.block _ zw zw).trans x0,(hb1.block _ zw zw).trans x1,by omega⟩
  clear HX hb1 hr1;go_wp2_with fail
  go_loopw[4,5] (λx i wr=>aln r a len cap w x i wr) (λ_ i _=>(intOf i).toNat)
  case atStart=>
    obtain⟨y1,y2,y3,anX,amp⟩:=HY.I;exact⟨0,(c+1).toNat,0,_,[],rfl,by go_num,by omega,by omega,by omega,by omega,⟨y3,anX,⟨zy,.inl ⟨rfl,rfl⟩⟩,by simp[akE],y2,y1,amp⟩⟩
  case round=>
    obtain⟨k,m,at',v,xs,rfl,rfl,km,km',at0,at1,hM⟩:=hrel;have HM:da (Made r a len cap w wr 0 v k xs):=hM;clear hM;by_cases hm:0<m
    . have hm':(0:Int)<(m:Int):=by omega
      go_wp2_with fail;refine(dh r a len cap 3 wr hl zw zw HM.I.rd).mono ?_;rintro e w2 ⟨d,d0,d1,rfl,hb2,hr2⟩;go_wp2_with fail;refine(dh r a len cap 4 w2 hl zw zw hr2).mono ?_;rintro e w3 ⟨l,l0,l1,rfl,hb3,hr3⟩;go_wp2_with fail;have HM3:da (Made r a len cap w w3 0 v k xs):=(HM.I.move rl hb2 hr2).move rl hb3 hr3;clear HM hb2 hr2 hb3;have c3:w3.cell? ⟨w.heap.size+1,1,n_⟩=o_ v:=HM3.I.cell;have n3:=World.new_ne w3 _ c3
      go_region_law
        ((first
          | (go_simp
             go_at_call 60
             refine(dh r a len cap 3 _ hl zw zw ?_).mono ?_;exact hr3;rintro e w4 ⟨p,p0,p1,rfl,hb4,hr4⟩;have HM4:da (Made r a len cap w w4 0 v k xs):=HM3.I.move rl hb4.alc hr4;have c4:w4.cell? ⟨w.heap.size+1,1,n_⟩=o_ v:=HM4.I.cell;have n4:=World.new_ne w4 _ c4;have s4:=HM4.I.size;have lt4:w.heap.size+1<w4.heap.size:=by omega
             have hpw:IntKind.i64.wrap (1+p)=1+p:=by rw[K8];omega
             clear hb4 hr4)
          | (refine step_append_lies _ (by rfl) _ _ _ (by rfl) (w.heap.size+2) 62 i0 _ 3 24 underlying24 HI.I.1 HI.I.2.1 HI.I.2.2.1 HI.I.2.2.2 rfl zw v k xs (by rfl) (by first|exact HM4.I.own.alloc _|exact(HM4.I.own.alloc _).drew|exact(HM4.I.own.drew.alloc _).drew|exact HM4.I.own.drew.alloc _)
              ⟨w4.heap.size,0,n_⟩ 1 1 [i_ j_ (at'+d),i_ j_ (1+l),i_ j_ (1+p)] (by rfl) (by rfl) (KE (cs:=#[i_ j_ (at'+d),i_ j_ (1+l),i_ j_ (1+p)]) (t:=62) (fr:=(0,0)) (Kj w4 _)) Zcw
              zw (by simp only[maxLen];omega) zw ZbI (w4.heap.size+1) zy ?_
             intro gg cp w5 oM hgrow hat hlt;have f5:=HM4.I.akK hgrow;have HP:da _:=HM4.I.push h hgrow oM zw zw zw;have c5:w5.cell? ⟨w.heap.size+1,1,n_⟩=o_ v:=by simp[World.cell?,f5]
             have z5:w5.frozen? ⟨w.heap.size+1,1,n_⟩=false:=Ko w5 _ _ _ _ f5;clear oM hgrow hat f5)))
      all_goals
        have hnw:IntKind.i64.wrap (at'+d+(1+l))=at'+d+(1+l):=by rw[K8];omega
        go_wp2;go_roundw
        case rel=>exact⟨k+1,m-1,_,_,_,rfl,by go_num,by omega,by omega,by omega,by omega,HP.I⟩
        case measure=>simp[intOf];omega
    . have hk:0<k:=by omega
      obtain⟨g,cp,rfl,hg0,CT⟩:=HM.I.own.form hk;go_wp2_with fail;refine(dh r a len cap 3 wr hl zw zw HM.I.rd).mono ?_;rintro e w2 ⟨d,d0,d1,rfl,hb2,hr2⟩;have HM2:da (Made r a len cap w w2 0 (s_ (o_ ⟨g,0,n_⟩) k cp) k xs):=HM.I.move rl hb2 hr2;have HM2':da (Made r a len cap w (w2.setCell ⟨w.heap.size+1,0,n_⟩ (i_ j_ (at'+d))) (at'+d) (s_ (o_ ⟨g,0,n_⟩) k cp) k xs):=HM2.I.major h _;clear HM hb2 hr2;have f2:=HM2.I.fr;have c2:w2.cell? ⟨w.heap.size+1,0,n_⟩=o_ (i_ j_ 0):=by simp[World.cell?,f2]
      have z2:w2.frozen? ⟨w.heap.size+1,0,n_⟩=false:=Ko w2 _ _ _ _ f2;clear f2 HM2;have hnw:IntKind.i64.wrap (at'+d)=at'+d:=by rw[K8];omega
      go_wp2_with fail;generalize w2.setCell ⟨w.heap.size+1,0,n_⟩ (i_ j_ (at'+d))=W2 at*;refine(jt r a len cap 30 W2 hl zw zw HM2'.I.rd).mono ?_;rintro e w3 ⟨q,rfl,hb3,hr3⟩;have HM3:da (Made r a len cap w w3 (at'+d) (s_ (o_ ⟨g,0,n_⟩) k cp) k xs):=HM2'.I.move rl hb3 hr3;clear HM2' hb3 hr3;cases q with
      |true=>
        go_wp2_with fail;refine(pj r a len cap 1 1000 w3 hl zw zw zw HM3.I.rd).mono ?_;rintro e w4 ⟨y,rfl,hb4,hr4⟩;have HM4:da (Made r a len cap w w4 (at'+d) (s_ (o_ ⟨g,0,n_⟩) k cp) k xs):=HM3.I.move rl hb4 hr4;have HM5:da (Made r a len cap w (w4.setCell ⟨w.heap.size+1,0,n_⟩ (i_ j_ y)) y (s_ (o_ ⟨g,0,n_⟩) k cp) k xs):=HM4.I.major h _;clear HM3 hb4 hr4;have f4:=HM4.I.fr;have c4:w4.cell? ⟨w.heap.size+1,0,n_⟩=o_ (i_ j_ (at'+d)):=by simp[World.cell?,f4]
        have z4:w4.frozen? ⟨w.heap.size+1,0,n_⟩=false:=Ko w4 _ _ _ _ f4;clear f4 HM4;have f5:=HM5.I.fr;have g5:=HM5.I.I;have s5:=HM5.I.size;have c50:(w4.setCell ⟨w.heap.size+1,0,n_⟩ (i_ j_ y)).cell? ⟨w.heap.size+1,0,n_⟩=o_ (i_ j_ y):=by simp[World.cell?,f5]
        have c51:(w4.setCell ⟨w.heap.size+1,0,n_⟩ (i_ j_ y)).cell? ⟨w.heap.size+1,1,n_⟩=o_ (s_ (o_ ⟨g,0,n_⟩) k cp):=by simp[World.cell?,f5]
        have d50:(w4.setCell ⟨w.heap.size+1,0,n_⟩ (i_ j_ y)).cell? ⟨w.heap.size,0,n_⟩=o_ (i_ j_ 0):=by simp[World.cell?,g5]
        have d51:(w4.setCell ⟨w.heap.size+1,0,n_⟩ (i_ j_ y)).cell? ⟨w.heap.size,1,n_⟩=o_ (s_ n_ 0 0):=by simp[World.cell?,g5]
        have z50:(w4.setCell ⟨w.heap.size+1,0,n_⟩ (i_ j_ y)).frozen? ⟨w.heap.size,0,n_⟩=false:=Ko _ _ _ _ _ g5;have z51:(w4.setCell ⟨w.heap.size+1,0,n_⟩ (i_ j_ y)).frozen? ⟨w.heap.size,1,n_⟩=false:=Ko _ _ _ _ _ g5;clear f5 g5;generalize hW:w4.setCell ⟨w.heap.size+1,0,n_⟩ (i_ j_ y)=W5 at*;go_wp2;refine KT (K9 results56 _ _ w.heap.size 26 #[i_ j_ (y),s_ (o_ ⟨g,0,n_⟩) k cp] (0,0) _ (by rfl) (HM5.I.ends h _ _).2 underlying26 rfl akj) rfl ?_;exact⟨_,g,k,cp,_,rfl,⟨hk,by omega⟩,HM5.I.small,(HM5.I.ends h _ _).1⟩
      |false=>
        have f5:=HM3.I.fr;have g5:=HM3.I.I;have c50:w3.cell? ⟨w.heap.size+1,0,n_⟩=o_ (i_ j_ (at'+d)):=by simp[World.cell?,f5]
        have c51:w3.cell? ⟨w.heap.size+1,1,n_⟩=o_ (s_ (o_ ⟨g,0,n_⟩) k cp):=by simp[World.cell?,f5]
        have d50:w3.cell? ⟨w.heap.size,0,n_⟩=o_ (i_ j_ 0):=by simp[World.cell?,g5]
        have d51:w3.cell? ⟨w.heap.size,1,n_⟩=o_ (s_ n_ 0 0):=by simp[World.cell?,g5]
        have z50:w3.frozen? ⟨w.heap.size,0,n_⟩=false:=Ko _ _ _ _ _ g5;have z51:w3.frozen? ⟨w.heap.size,1,n_⟩=false:=Ko _ _ _ _ _ g5;clear f5 g5;go_wp2;refine KT (K9 results56 _ _ w.heap.size 26 #[i_ j_ (at'+d),s_ (o_ ⟨g,0,n_⟩) k cp] (0,0) _ (by rfl) (HM3.I.ends h _ _).2 underlying26 rfl akj) rfl ?_;exact⟨_,g,k,cp,_,rfl,⟨hk,by omega⟩,HM3.I.small,(HM3.I.ends h _ _).1⟩
end
end Go.Proofs.YtckenjkcmajicaaGreat
