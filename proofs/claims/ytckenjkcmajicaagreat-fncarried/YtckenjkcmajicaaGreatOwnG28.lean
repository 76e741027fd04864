/- What the proof leans on, part 28. -/
import Derived.Test.YtckenjkcmajicaaGreatOwnG24
import Derived.Test.YtckenjkcmajicaaGreatOwnG25
import Derived.Test.YtckenjkcmajicaaGreatOwnG26
import Derived.Test.YtckenjkcmajicaaGreatOwnG27
set_option linter.all false
set_option maxRecDepth 100000
set_option maxHeartbeats 8000000
open Go.Proofs.Tryz
open Go renaming World->w_,Calls->k_,Addr->d_,below_setRow->q_
open Go.Ending renaming returned->r_
open Go.IntKind renaming i64->j_
open Go.Obj renaming cells->c_
open Go.RowKit renaming Below->B_,Hid->da
open Go.Value renaming int->i_,slice->s_,bool->b_,string->t_,agg->a_
open Option renaming some->o_,none->n_
open Go.Proofs.Tryz renaming prog->J3

namespace Go.Proofs.YtckenjkcmajicaaGreat
open Go.RowKit Go.Maps
attribute [local go_sem ↓] Go.wp_at_zero Go.wp_at_succ
def nlS {P:Program}{md:Region.Mode}{ops:Array Oper}{Q:Exit->Act->w_->Prop}{S:w_->Prop}{oi:Oper}{fuel:Nat}{RV:Array Bool}{a a':Act}{d:Tmp}
  (h:gR P md ops Q S fuel (RV.setIfInBounds (ops.size-(fuel+1)) true) a')(hi:ops[ops.size-(fuel+1)]? =o_ oi:=by rfl)(hd:oi.dst=o_ d:=by rfl)(hc:Jj md ops RV (ops.size-(fuel+1)) oi (o_ d)=true:=by kernel_rfl)
  (hQ:∀c a w,Q (.panic c) (a.put (o_ d) undef) w->Q (.panic c) a w:=by exactλ_ _ _ h=>h)(hw:Region.wanted oi (yielded ops a.tmps)=false:=by kernel_rfl)(ha:a.put (o_ d) undef=a':=by simp only[pt,sb,s0,s1];rfl):gR P md ops Q S (fuel+1) RV a:=
 nl Zdg hi hd hc hQ hw
def aqu {w:w_}{bj:Nat}{k:eA}(h:gp w bj k)(hn:0<k.fn.length):∃g,k.vb=o_ ⟨g,0,n_⟩/\g<w.heap.size:=by
 obtain⟨g,e,c0,-⟩:=aqN (nP h.fn) hn;exact⟨g,e,(cf h.fn (g:=g) (by rw[e];simp[blk])).2⟩
structure apY (w:w_)(X Y:Nat)(k n:eA)(W:w_):Prop where
 kb:Tk W X k
 nb:Tk W Y n
 u7:gp W w.heap.size k
 no:gp W w.heap.size n
 low:B_ w.heap.size w W
section
variable {w W W1 W2:w_}{X Y:Nat}{k n q:eA}{a b:Int}
def apY.below (h:apY w X Y k n W)(hb:B_ W.heap.size W W2):apY w X Y k n W2:=
 ⟨(hb.block _ (J2.1 h.kb).1).trans h.kb,(hb.block _ (J2.1 h.nb).1).trans h.nb,h.u7.below hb,h.no.below hb,h.low.trans (hb.mono h.low.size)⟩
def apY.swap (h:apY w X Y k n W):apY w Y X n k W:=⟨h.nb,h.kb,h.no,h.u7,h.low⟩
def apY.more (h:apY w X Y k n W)(hb:B_ W.heap.size W W1)(ho:gp W1 W.heap.size q):apY w X Y k n ((W1.alloc (c_ T9 30)).setRow W1.heap.size q.row)/\apY w X W1.heap.size k q ((W1.alloc (c_ T9 30)).setRow W1.heap.size q.row):=by
 have hq:B_ W1.heap.size W1 ((W1.alloc (c_ T9 30)).setRow W1.heap.size q.row):=q_ ((Kp _ _).alloc (Ki _) _) (Ki _) _;have h2:=h.below (hb.trans (hq.mono hb.size));exact⟨h2,h2.kb,KU _ _ _ _ _ _ (Kj _ _),h2.u7,(ho.lower h.low.size).below hq,h2.low⟩
def apY.text (h:apY w X Y k n W)(hs:k.pure.Small)(hn:0<k.fn.length)(ha:(Lit.int j_ a).wf=true):k_ J3 10 #[a_ k.row,i_ j_ a,i_ j_ b] W λe w'=>e=r_ (t_ (aqb k.pure a b))/\B_ W.heap.size W w':=by
 obtain⟨g,hg⟩:=aqu h.u7 hn;exact ark k a b g _ W ha hs h.u7 hg
def apY.carry (h:apY w X Y k n W)(hs:k.pure.Small)(hn:0<k.fn.length)(ha:(Lit.int j_ a).wf=true):k_ J3 7 #[a_ k.row,i_ j_ a] W λe w'=>arT W (abJ k.pure a) e w':=by
 obtain⟨g,hg⟩:=aqu h.u7 hn;exact ab5 k a g _ W ha hs h.u7 hg
def apY.carryS (h:apY w X Y k n W)(hs:k.pure.Small)(hn:0<k.fn.length):k_ J3 8 #[a_ k.row,i_ j_ a] W λe w'=>arT W (abJ k.pure a) e w':=by
 obtain⟨g,hg⟩:=aqu h.u7 hn;exact acB k a g W hs hg h.u7.at
def apY.part (h:apY w X Y k n W)(hs:k.pure.Small)(hn:0<k.fn.length)(ha:(Lit.int j_ a).wf=true):k_ J3 11 #[a_ k.row,i_ j_ a] W λe w'=>gI W (V7 k.pure a) e w':=by
 obtain⟨g,hg⟩:=aqu h.u7 hn;exact Wg k a g _ W ha hs h.u7 hg
def apY.ok (h:apY w X Y k n W)(hs:k.pure.Small)(hn:0<k.fn.length):k_ J3 12 #[a_ k.row] W λe w'=>e=r_ (b_ (eP k.pure))/\B_ W.heap.size W w':=by
 obtain⟨g,hg⟩:=aqu h.u7 hn;exact TF k g _ W hs h.u7 hg
def apY.same (h:apY w X Y k n W)(hs:k.pure.Small)(he:n.pure=k.pure):k_ J3 9 #[a_ k.row,a_ n.row] W λe w'=>e=r_ (b_ true)/\B_ W.heap.size W w':=aq5 k n W _ _ hs h.u7 h.no he
end
def aqt {k:kd}{a b:Int}(h:k.Small):(aqb k a b).size<=2100000000000000000:=by
 have h1:=aqr (id:=a) h;have h2:=aqE (port:=b) (l:=((V7 k a).getD cN).ai) (s:=⟨#[]⟩) λx hx=>(h1.ai x hx).2
 have h3:=h1.dH;have e:(⟨#[]⟩:ByteArray).size=0:=rfl;unfold aqb;omega
def arI (a:Option d_)(len cap:Nat)(w:w_)(hb:len<=1048576->Bytes w a len):
  k_ J3 3 #[s_ a len cap] w λe w'=>e=r_ (b_ true)/\B_ w.heap.size w w':=by
 by_cases hl:1048576<len
 .have hd:decide (1048576<len)=true:=by simp[hl]
  go_enter func3,ntmps3
  go_wp2_with(go_at_call 5;refine(DG _ _ _ _).mono ?_;rintro e w' ⟨rfl,rfl⟩;rw[hd]);go_ret;exact⟨rfl,Zck⟩
 have hd:decide (1048576<len)=false:=by simp[hl]
 have HBY:da (Bytes w a len):=hb zw;clear hb;have HL:da (len<=1048576):=(by omega:len<=1048576)
 clear hl
 go_enter func3,ntmps3
 go_wp2_with(go_at_call 5;refine(DG _ _ _ _).mono ?_;rintro e w' ⟨rfl,rfl⟩;rw[hd]);clear hd;have Mb:=aqT a len cap w' HL.I HBY.I;go_wp2_with fail;refine Mb.mono ?_;clear Mb HBY;rintro e af8 ⟨k,z,rfl,hz,ho,hs,⟨hw,hne⟩,hb⟩;have HZ:=aA (And.intro hz (And.intro hs hne));have S:da (apY w' af8.heap.size af8.heap.size k k ((af8.alloc (c_ T9 30)).setRow af8.heap.size k.row)):=by
  have hq:B_ af8.heap.size af8 ((af8.alloc (c_ T9 30)).setRow af8.heap.size k.row):=q_ ((Kp _ _).alloc (Ki _) _) (Ki _) _;have hx:Tk ((af8.alloc (c_ T9 30)).setRow af8.heap.size k.row) af8.heap.size k:=KU _ _ _ _ _ _ (Kj _ _);exact⟨hx,hx,ho.below hq,ho.below hq,hb.trans (hq.mono hb.size)⟩
 clear hz ho hs hw hne hb;go_upto_region 4 with(refine stK 3 25 k.row (Kj _ _) ?_);generalize(af8.alloc (c_ T9 30)).setRow af8.heap.size k.row=B at*;generalize af8.heap.size=X at*;obtain⟨r,hr⟩:∃r,da (abJ k.pure z=r):=⟨_,rfl⟩
 have Mb:=S.I.carry (a:=z) HZ.I.2.1 HZ.I.2.2 HZ.I.1;rw[hr.I]at Mb;obtain⟨m0,m1,m2,m3,m4⟩:=S.I.kb.cells;go_wp2_with fail;clear m0 m1 m2 m3 m4;refine Mb.mono ?_;clear Mb;rintro e B1 ⟨n,rfl,ho,hp,hb⟩;have HN:da (n.pure=r.getD ZG/\n.pure.Small):=⟨hp,by rw[hp,<-hr.I];exact(acO HZ.I.2.1).1⟩
 replace S:=aA (S.I.more hb ho).2;clear ho hp hb;go_upto_region 5 with(refine stK 5 31 n.row (Kj _ _) ?_);generalize(B1.alloc (c_ T9 30)).setRow B1.heap.size n.row=B2 at*;generalize B1.heap.size=Y at*;have Mb:=S.I.carryS (a:=z) HZ.I.2.1 HZ.I.2.2;rw[hr.I]at Mb;obtain⟨m0,m1,m2,m3,m4⟩:=S.I.kb.cells;go_wp2_with fail;clear m0 m1 m2 m3 m4;refine Mb.mono ?_;clear Mb;rintro e B3 ⟨q,rfl,ho,hp,hb⟩;have HQ:da (q.pure=n.pure):=hp.trans HN.I.1.symm;have S2:da (apY w' X Y k n ((B3.alloc (c_ T9 30)).setRow B3.heap.size q.row)/\apY w' Y B3.heap.size n q ((B3.alloc (c_ T9 30)).setRow B3.heap.size q.row)):=⟨(S.I.more hb ho).1,(S.I.swap.more hb ho).2⟩
 clear ho hp hb S;go_upto_region 6 with(refine stK 7 37 q.row (Kj _ _) ?_);generalize(B3.alloc (c_ T9 30)).setRow B3.heap.size q.row=hE at*;generalize B3.heap.size=Z at*;have WX:da (∀W,apY w' Y Z n q W->k_ J3 9 #[a_ n.row,a_ q.row] W λe w'=>e=r_ (b_ true)/\B_ W.heap.size W w'):=λW h=>h.same HN.I.2 HQ.I
 have e0:(r.isSome !=r.isSome)=false:=zy
 obtain⟨m0,m1,m2,m3,m4⟩:=S2.I.2.kb.cells;obtain⟨n0,n1,n2,n3,n4⟩:=S2.I.2.nb.cells;go_wp2_with fail;clear m0 m1 m2 m3 m4 n0 n1 n2 n3 n4 e0;refine(WX.I _ S2.I.2).mono ?_;rintro e amZ ⟨rfl,hb⟩;replace S2:=aA (And.intro (S2.I.1.below hb) (S2.I.2.below hb));clear hb;cases r with
 |none=>
  obtain⟨m0,m1,m2,m3,m4⟩:=S2.I.2.kb.cells;obtain⟨n0,n1,n2,n3,n4⟩:=S2.I.2.nb.cells;go_wp2_with fail;clear m0 m1 m2 m3 m4 n0 n1 n2 n3 n4;refine(WX.I _ S2.I.2).mono ?_;rintro e alO ⟨rfl,hb⟩;go_wp2_with fail;go_ret;exact⟨rfl,(S2.I.1.below hb).low⟩
 |some np=>
  have HC:=aA (arq hr.I);have hnp:n.pure=np:=HN.I.1;have HW:da (n.pure=np/\n.pure.Small/\0 < n.fn.length):=⟨hnp,HN.I.2,by
   have h5:=HC.I.2.2.2.1;rw[<-hnp]at h5;rw[show n.fn=k.fn from h5];exact HZ.I.2.2⟩
  have S:=aA S2.I.1;clear hnp S2 WX HQ HN hr;have hcl:k.eC.length<=1048576:=HZ.I.2.1.w8;have VB:=aA hcl;clear hcl;go_wp2_with fail
  go_loopw[9] (λi wr=>∃j:Nat,j<=k.eC.length/\i=i_ j_ j/\da (apY w' X Y k n wr)) (λi _=>k.eC.length-(Go.RowKit.intOf i).toNat)
  case atStart=>exact⟨0,Ky _,rfl,S⟩
  case round=>
   clear S;obtain⟨j,hj,rfl,S⟩:=hrel;have hcl:=VB.I;have m4:=S.I.kb.cells.2.2.2.2;by_cases hlt:j<k.eC.length
   .have i0:(0:Int)<=(j:Int):=zw
    have i1:(j:Int)<(k.eC.length:Int):=zw
    obtain⟨c,hc⟩:∃c,k.eC[j]? =o_ c:=⟨_,Kz hlt⟩
    obtain⟨gc,iE,y0,y1,y2,y3⟩:=TH S.I.u7.at.eC hc;rw[iE]at m4;have HY:=aA (And.intro hlt (And.intro (KA hc) (HZ.I.2.1.eC c (KA hc))));clear hc iE hj hlt;go_upto_region 12 with fail;replace S:da (apY w' X Y k n (wr.alloc (c_ (nx c) 37))/\(wr.alloc (c_ (nx c) 37)).heap[wr.heap.size]? =o_ (c_ (nx c) 37)):=⟨S.I.below ((Kp _ _).alloc (Ki _) _),Kj _ _⟩
    clear m4 y0 y1 y2 y3;generalize wr.alloc (c_ (nx c) 37)=V at*;generalize wr.heap.size=C at*;have NR:da (∀W W2:w_,da (apY w' X Y k n W/\W.heap[C]? =o_ (c_ (nx c) 37))->B_ W.heap.size W W2->da (apY w' X Y k n W2/\W2.heap[C]? =o_ (c_ (nx c) 37))):=λW W2 h hb=>⟨h.I.1.below hb,(hb.block _ (J2.1 h.I.2).1).trans h.I.2⟩
    have HCC:da (∀W:w_,W.heap[C]? =o_ (c_ (nx c) 37)->W.cell? ⟨C,0,n_⟩=o_ (i_ j_ c.src)/\W.cell? ⟨C,1,n_⟩=o_ (i_ j_ c.ga)/\W.cell? ⟨C,2,n_⟩=o_ (i_ j_ c.dst)/\W.cell? ⟨C,3,n_⟩=o_ (i_ j_ c.hI)):=λW h=>by simp[World.cell?,h]
    obtain⟨y0,y1,y2,y3⟩:=HCC.I _ S.I.2;by_cases hsrc:c.src=z
    .have e1:(c.src !=z)=false:=by simp[hsrc]
     obtain⟨p,fl,HO⟩:∃p fl,da (CaOk k.pure np c p fl):=HC.I.2.2.2.2 c HY.I.2.1 hsrc;clear hsrc;go_upto_region 13 with fail;clear e1 y0 y1 y2 y3;have wh:da (∀(x y:Int)(w0:w_),(Lit.int j_ x).wf=true->da (apY w' X Y k n w0/\w0.heap[C]? =o_ (c_ (nx c) 37))->k_ J3 10 #[a_ k.row,i_ j_ x,i_ j_ y] w0 λe w1=>e=r_ (t_ (aqb k.pure x y))/\da (apY w' X Y k n w1/\w1.heap[C]? =o_ (c_ (nx c) 37))):=λx y w0 hx h0=>(h0.I.1.text HZ.I.2.1 HZ.I.2.2 hx).mono λe w1 h=>⟨h.1,NR.I _ _ h0 h.2⟩
     have zz:da (∀(x y:Int)(w0:w_),(Lit.int j_ x).wf=true->da (apY w' X Y k n w0/\w0.heap[C]? =o_ (c_ (nx c) 37))->k_ J3 10 #[a_ n.row,i_ j_ x,i_ j_ y] w0 λe w1=>e=r_ (t_ (aqb np x y))/\da (apY w' X Y k n w1/\w1.heap[C]? =o_ (c_ (nx c) 37))):=λx y w0 hx h0=>(h0.I.1.swap.text HW.I.2.1 HW.I.2.2 hx).mono λe w1 h=>⟨by rw[<-HW.I.1];exact h.1,NR.I _ _ h0 h.2⟩
     have HT:da ((aqb k.pure c.dst c.hI).size<=2100000000000000000/\(aqb k.pure c.src c.ga).size<=2100000000000000000/\(aqb np c.dst c.hI).size<=2100000000000000000/\(aqb np c.src c.ga).size<=2100000000000000000):=⟨aqt HZ.I.2.1,aqt HZ.I.2.1,ZfK,ZfK⟩
     have HQ:=aA (And.intro HO.I.Mf (And.intro HO.I.full HO.I.stay));have HK11:=aA λw0=>wh.I c.dst c.hI w0 HY.I.2.2.2.2.1
     have asd:=aA λw0=>wh.I c.src c.ga w0 HY.I.2.2.1
     have HK21:=aA λw0=>zz.I c.dst c.hI w0 HY.I.2.2.2.2.1
     have HK22:=aA λw0=>zz.I c.src c.ga w0 HY.I.2.2.1
     clear wh zz;generalize aqb k.pure c.dst c.hI=t1 at*;generalize aqb k.pure c.src c.ga=t2 at*;generalize aqb np c.dst c.hI=u1 at*;generalize aqb np c.src c.ga=u2 at*;have q1:¬9223372036854775807<t1.size+t2.size:=by have:=HT.I;omega
     have q2:¬9223372036854775807<u1.size+u2.size:=by have:=HT.I;omega
     refine aT (λW=>da (apY w' X Y k n W/\W.heap[C]? =o_ (c_ (nx c) 37))) ZbG (NR.I _ _ S (Kp _ _).drew) ?_
     iterate 5 (refine PI ?_ (hy:=λw0 hS0=>Zc3))
     refine b9 t1 10 #[a_ k.row,i_ j_ c.dst,i_ j_ c.hI] HK11.I ?_
     iterate 5 (refine PI ?_ (hy:=λw0 hS0=>Zc3))
     refine b9 t2 10 #[a_ k.row,i_ j_ c.src,i_ j_ c.ga] asd.I ?_
     iterate 2 (refine PI ?_)
     refine bk ZbG (λA2 y5=>?_) _;replace S:=y5;clear y5;go_upto_region 14 with fail;refine aT (λW=>da (apY w' X Y k n W/\W.heap[C]? =o_ (c_ (nx c) 37))) ZbG (NR.I _ _ S (Kp _ _).drew) ?_
     iterate 5 (refine PI ?_ (hy:=λw0 hS0=>Zc4))
     refine b9 u1 10 #[a_ n.row,i_ j_ c.dst,i_ j_ c.hI] HK21.I ?_
     iterate 5 (refine PI ?_ (hy:=λw0 hS0=>Zc4))
     refine b9 u2 10 #[a_ n.row,i_ j_ c.src,i_ j_ c.ga] HK22.I ?_
     iterate 2 (refine PI ?_)
     refine bk ZbG (λA3 y5=>?_) _;replace S:=y5;clear y5;obtain⟨m0,m1,m2,m3,m4⟩:=S.I.1.kb.cells;obtain⟨y0,y1,y2,y3⟩:=HCC.I _ S.I.2;have Mb:=S.I.1.part (a:=c.src) HZ.I.2.1 HZ.I.2.2 HY.I.2.2.1;rw[HO.I.part]at Mb;go_wp2_with fail;clear m0 m1 m2 m3 m4 y0 y1 y2 y3;refine Mb.mono ?_;clear Mb;rintro e afT ⟨q,rfl,ho,hp,hb⟩;have hpp:q.pure=p:=hp;have HP:da (aqk c.ga q.pure.ai=fl/\q.ai.length<=1048576/\∀x∈q.ai,x.Ma.length<=1048576):=by
      have h5:=aqr (id:=c.src) HZ.I.2.1;rw[HO.I.part]at h5;have h6:q.pure.Small:=by rw[hpp];exact h5
      refine⟨by rw[hpp];exact HO.I.flags,by have:=h6.dH;simpa[af.pure]using this,λx hx=>(h6.ai x.todS (Lr.2 ⟨x,hx,rfl⟩)).2.1⟩
     have S3:da (da (apY w' X Y k n ((afT.alloc (c_ ar 46)).setRow afT.heap.size q.cells)/\((afT.alloc (c_ ar 46)).setRow afT.heap.size q.cells).heap[C]? =o_ (c_ (nx c) 37))/\av ((afT.alloc (c_ ar 46)).setRow afT.heap.size q.cells) afT.heap.size q/\af.At ((afT.alloc (c_ ar 46)).setRow afT.heap.size q.cells) q):=by
      have hq:B_ afT.heap.size afT ((afT.alloc (c_ ar 46)).setRow afT.heap.size q.cells):=q_ ((Kp _ _).alloc (Ki _) _) (Ki _) _;exact⟨NR.I _ _ S (hb.trans (hq.mono hb.size)),KU _ _ _ _ _ _ (Kj _ _),ho.at.below hq⟩
     clear hpp ho hp hb S HO;go_upto_region 16 with(refine ec _ _ q.cells (Kj _ _) ?_);generalize(afT.alloc (c_ ar 46)).setRow afT.heap.size q.cells=apN at*;generalize afT.heap.size=P at*;go_wp2_with fail
     go_loopw[15,16,17] (λf1 f2 i wr=>∃m:Nat,m<=q.ai.length/\f1=b_ (aqk c.ga (q.pure.ai.take m)).1/\f2=b_ (aqk c.ga (q.pure.ai.take m)).2/\i=i_ j_ m/\da (da (apY w' X Y k n wr/\wr.heap[C]? =o_ (c_ (nx c) 37))/\av wr P q/\af.At wr q)) (λ_ _ i _=>q.ai.length-(Go.RowKit.intOf i).toNat)
     case atStart=>exact⟨0,Ky _,rfl,rfl,rfl,S3⟩
     case round=>
      clear S3;obtain⟨m,hm,rfl,rfl,rfl,S3⟩:=hrel;have hpl:=HP.I.2.1;have m7:=(av.cells S3.I.2.1).2.2.2.2.2.2.2;by_cases hmt:m<q.ai.length
      .have j0:(0:Int)<=(m:Int):=zw
       have j1:(m:Int)<(q.ai.length:Int):=zw
       obtain⟨x,hx⟩:∃x,q.ai[m]? =o_ x:=⟨_,Kz hmt⟩
       obtain⟨gpt,Y5,x0,-,x2,-,x4⟩:=lm S3.I.2.2.2.2.2.2.2 hx;rw[Y5]at m7;have hxp:q.pure.ai[m]? =o_ x.todS:=by show(q.ai.map _)[m]? =_;rw[Kk,hx];rfl
       have HU:=aA (ar5 (port:=c.ga) hxp);have hli:=HP.I.2.2 x (KA hx);obtain⟨y0,y1,y2,y3⟩:=HCC.I _ S3.I.1.I.2;clear hx Y5 hxp y0 y2 y3;generalize aqk c.ga (q.pure.ai.take m)=ff at*;by_cases hid:x.id=c.ga
       .have e1:(x.id==c.ga)=true:=by simp[hid]
        have HI:=aA hid;clear hid;go_wp2_with fail
        go_quiet (fail)
        go_wp2_with fail;go_roundw
        case rel=>exact⟨m+1,zw,by rw[HU.I,if_pos HI.I],by rw[HU.I,if_pos HI.I],by go_num,NR.I _ _ S3.I.1 ⟨rfl,rfl,rfl,Ki _,λ_ _=>rfl⟩,S3.I.2.1,S3.I.2.2.below ⟨rfl,rfl,rfl,Ki _,λ_ _=>rfl⟩⟩
        case measure=>exact ZbL
       .have e1:(x.id==c.ga)=false:=by simp[hid]
        have HI:=aA hid;clear hid;go_wp2_with fail
        go_quiet (fail)
        go_wp2_with fail;go_roundw
        case rel=>exact⟨m+1,zw,by rw[HU.I,if_neg HI.I],by rw[HU.I,if_neg HI.I],by go_num,NR.I _ _ S3.I.1 ⟨rfl,rfl,rfl,Ki _,λ_ _=>rfl⟩,S3.I.2.1,S3.I.2.2.below ⟨rfl,rfl,rfl,Ki _,λ_ _=>rfl⟩⟩
        case measure=>exact ZbL
      .have j1:¬(m:Int)<(q.ai.length:Int):=zw
       have HFL:da (aqk c.ga (q.pure.ai.take m)=fl):=by
        rw[KF (by show(q.ai.map _).length<=m;simp;omega)];exact HP.I.1
       go_upto_region 24 with fail;rw[HFL.I];clear HFL HP hm hmt j1 m7 hpl;have S:=aA S3.I.1;clear S3;have hcl:=VB.I;have hj:=HY.I.1;obtain⟨b1,b2⟩:=fl;cases b1 with
       |true=>
        have e5:(!(t1++t2).toList==(u1++u2).toList)=false:=by rw[HQ.I.1 rfl];simp
        dsimp only
        refine aT (λW=>da (apY w' X Y k n W/\W.heap[C]? =o_ (c_ (nx c) 37))) ZbG (NR.I _ _ S (Kp _ _).drew) ?_
        iterate 10 (refine PI ?_ (hy:=λw0 hS0=>ZbH))
        iterate 1 (refine nlS ?_)
        iterate 2 (refine PI ?_ (hy:=λw0 hS0=>ZbH))
        iterate 13 (refine nlS ?_)
        iterate 6 (refine PI ?_ (hy:=λw0 hS0=>ZbH))
        iterate 13 (refine nlS ?_)
        iterate 2 (refine PI ?_ (hy:=λw0 hS0=>ZbH))
        refine bk ZbG (λJC y5=>?_) _;go_wp2_with fail;go_roundw
        case rel=>exact⟨j+1,zw,by go_num,y5.I.1⟩
        case measure=>exact ZbL
       |false=>
        have e7:(!u2.toList==t2.toList)=false:=by rw[HQ.I.2.2 rfl];simp
        cases b2 with
        |true=>
         have e6:(!u1.toList==t2.toList)=false:=by rw[HQ.I.2.1 rfl rfl];simp
         dsimp only
         refine aT (λW=>da (apY w' X Y k n W/\W.heap[C]? =o_ (c_ (nx c) 37))) ZbG (NR.I _ _ S (Kp _ _).drew) ?_
         iterate 2 (refine PI ?_ (hy:=λw0 hS0=>ZbH))
         iterate 3 (refine nlS ?_)
         iterate 13 (refine PI ?_ (hy:=λw0 hS0=>ZbH))
         refine b9 u1 10 #[a_ n.row,i_ j_ c.dst,i_ j_ c.hI] HK21.I ?_
         iterate 5 (refine PI ?_ (hy:=λw0 hS0=>ZbH))
         refine b9 t2 10 #[a_ k.row,i_ j_ c.src,i_ j_ c.ga] asd.I ?_
         iterate 12 (refine PI ?_ (hy:=λw0 hS0=>ZbH))
         exact nv
        |false=>
         dsimp only
         refine aT (λW=>da (apY w' X Y k n W/\W.heap[C]? =o_ (c_ (nx c) 37))) ZbG (NR.I _ _ S (Kp _ _).drew) ?_
         iterate 2 (refine PI ?_ (hy:=λw0 hS0=>ZbH))
         iterate 3 (refine nlS ?_)
         iterate 8 (refine PI ?_ (hy:=λw0 hS0=>ZbH))
         iterate 13 (refine nlS ?_)
         iterate 11 (refine PI ?_ (hy:=λw0 hS0=>ZbH))
         exact nv
    .have e1:(c.src !=z)=true:=by simp[hsrc]
     clear hsrc;have hcl:=VB.I;have hj:=HY.I.1;go_wp2_with fail;go_roundw
     case rel=>exact⟨j+1,zw,by go_num,S.I.1⟩
     case measure=>exact ZbL
   .have i1:¬(j:Int)<(k.eC.length:Int):=zw
    have Mb:=S.I.swap.carry (a:=z) HW.I.2.1 HW.I.2.2 HZ.I.1;rw[HW.I.1,HC.I.2.2.1]at Mb;obtain⟨n0,n1,n2,n3,n4⟩:=S.I.nb.cells;go_wp2_with fail;clear m4 n0 n1 n2 n3 n4;refine Mb.mono ?_;clear Mb;rintro e Mx ⟨q,rfl,ho,hp,hb⟩;have HQ:da (q.pure=n.pure):=hp.trans HW.I.1.symm;replace S:=aA (S.I.swap.more hb ho).2;clear ho hp hb;go_upto_region 27 with(refine stK 18 190 q.row (Kj _ _) ?_);generalize(Mx.alloc (c_ T9 30)).setRow Mx.heap.size q.row=af3 at*;generalize Mx.heap.size=ao6 at*;obtain⟨m0,m1,m2,m3,m4⟩:=S.I.kb.cells;obtain⟨n0,n1,n2,n3,n4⟩:=S.I.nb.cells;have Mb:=S.I.swap.same (by rw[HQ.I];exact HW.I.2.1) HQ.I.symm;go_wp2_with fail;clear m0 m1 m2 m3 m4 n0 n1 n2 n3 n4;refine Mb.mono ?_;clear Mb;rintro e afY ⟨rfl,hb⟩;replace S:=aA (S.I.below hb);clear hb;obtain⟨m0,m1,m2,m3,m4⟩:=S.I.kb.cells;have Mb:=S.I.ok HW.I.2.1 HW.I.2.2;rw[HW.I.1,HC.I.1]at Mb;go_wp2_with fail;clear m0 m1 m2 m3 m4;refine Mb.mono ?_;clear Mb;rintro e apI ⟨rfl,hb⟩;go_wp2_with fail;go_ret;exact⟨rfl,(S.I.below hb).low⟩
end Go.Proofs.YtckenjkcmajicaaGreat
