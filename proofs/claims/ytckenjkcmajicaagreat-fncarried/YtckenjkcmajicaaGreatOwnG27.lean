/- What the proof leans on, part 27. -/
import Derived.Test.YtckenjkcmajicaaGreatOwnG23
set_option linter.all false
set_option maxRecDepth 100000
set_option maxHeartbeats 8000000
open Go.Proofs.Tryz
open Go renaming World->w_,Calls->k_,Addr->d_
open Go.Ending renaming returned->r_
open Go.IntKind renaming i64->j_
open Go.Obj renaming cells->c_
open Go.RowKit renaming Below->B_,Hid->da
open Go.Value renaming int->i_,slice->s_,bool->b_,agg->a_
open Option renaming some->o_,none->n_
open Go.Proofs.Tryz renaming prog->J3

namespace Go.Proofs.YtckenjkcmajicaaGreat
open Go.RowKit Go.Maps
attribute [local go_sem ↓] Go.wp_at_zero Go.wp_at_succ
theorem aqN {w:w_}{a:Option d_}{l:List pA}{k:Nat}(h:Row w a (jq.flat l))(hk:k<l.length):∃g,a=o_ ⟨g,0,n_⟩/\w.cell? ⟨g,k*3,n_⟩=o_ (i_ j_ (sz l (k*3)))/\w.cell? ⟨g,k*3+1,n_⟩=o_ (i_ j_ (sz l (k*3+1)))/\w.cell? ⟨g,k*3+2,n_⟩=o_ (i_ j_ (sz l (k*3+2))):=by
 obtain⟨g,e,c0⟩:=h (k*3) _ (Vf l zw);obtain⟨g1,e1,c1⟩:=h (k*3+1) _ (Vf l zw);obtain⟨g2,e2,c2⟩:=h (k*3+2) _ (Vf l zw);rw[e]at e1 e2;cases e1;cases e2;exact⟨g,e,c0,c1,c2⟩
theorem arp (major:Int)(a a':Option d_)(l:List pA)(c c':Nat)(w:w_)(hl:l.length<=1048576)(hr:Row w a (jq.flat l))(hr':Row w a' (jq.flat l)):
  k_ J3 25 #[a_ #[i_ j_ major,s_ a l.length c],a_ #[i_ j_ major,s_ a' l.length c']] w λe w'=>e=r_ (b_ true)/\B_ w.heap.size w w':=by
 have HR:=aA (And.intro hr hr');clear hr hr'
 go_enter func25,ntmps25
 go_wp2_with fail;have HW:da (((w.alloc (c_ #[i_ j_ major,s_ a l.length c] 26)).alloc (c_ #[i_ j_ major,s_ a' l.length c'] 26)).heap[w.heap.size]? =o_ (c_ #[i_ j_ major,s_ a l.length c] 26)/\((w.alloc (c_ #[i_ j_ major,s_ a l.length c] 26)).alloc (c_ #[i_ j_ major,s_ a' l.length c'] 26)).heap[w.heap.size+1]? =o_ (c_ #[i_ j_ major,s_ a' l.length c'] 26)/\B_ w.heap.size w ((w.alloc (c_ #[i_ j_ major,s_ a l.length c] 26)).alloc (c_ #[i_ j_ major,s_ a' l.length c'] 26))):=⟨(((Kp _ _).alloc (Ki _) _).block _ zy).trans (Kj _ _),Kq _ _ _,((Kp _ _).alloc (Ki _) _).alloc zy _⟩
 generalize(w.alloc (c_ #[i_ j_ major,s_ a l.length c] 26)).alloc (c_ #[i_ j_ major,s_ a' l.length c'] 26)=W0 at*;generalize hY:w.heap.size+1=Y at*;clear hY
 go_loopw[5] (λi wr=>∃k:Nat,k<=l.length/\i=i_ j_ k/\da (wr.heap[w.heap.size]? =o_ (c_ #[i_ j_ major,s_ a l.length c] 26)/\wr.heap[Y]? =o_ (c_ #[i_ j_ major,s_ a' l.length c'] 26)/\B_ w.heap.size w wr)) (λi _=>l.length-(Go.RowKit.intOf i).toNat)
 case atStart=>exact⟨0,Ky _,rfl,HW⟩
 case round=>
  clear HW;obtain⟨k,hk,rfl,HW⟩:=hrel;have p1:wr.cell? ⟨w.heap.size,1,n_⟩=o_ (s_ a l.length c):=Ze0
  have q1:wr.cell? ⟨Y,1,n_⟩=o_ (s_ a' l.length c'):=by simp[World.cell?,HW.I.2.1]
  by_cases hlt:k<l.length
  .obtain ⟨g,rfl,c0,c1,c2⟩:=aqN (HR.I.1.below HW.I.2.2) hlt
   obtain⟨g',rfl,d0,d1,d2⟩:=aqN (HR.I.2.below HW.I.2.2) hlt;have i0:(0:Int)<=(k:Int):=zw
   have i1:(k:Int)<(l.length:Int):=zw
   go_wp2_with fail
   go_quiet (fail)
   go_wp2;go_roundw
   case rel=>exact⟨k+1,zw,by go_num,HW.I.1,HW.I.2.1,HW.I.2.2.os,HW.I.2.2.tape,HW.I.2.2.output,HW.I.2.2.size,HW.I.2.2.block⟩
   case measure=>exact ZbL
  .have i1:¬(k:Int)<(l.length:Int):=zw
   go_wp2;go_ret;exact⟨rfl,HW.I.2.2⟩
structure apR (w:w_)(X Y b b':Nat)(k q:eA)(W:w_):Prop where
 k1:Tk W X k
 q1:Tk W Y q
 ok:gp W b k
 apZ:gp W b' q
 low:B_ w.heap.size w W
theorem apR.below {w W W2:w_}{X Y b b':Nat}{k q:eA}(h:apR w X Y b b' k q W)(hb:B_ W.heap.size W W2):apR w X Y b b' k q W2:=
 ⟨(hb.block _ (J2.1 h.k1).1).trans h.k1,(hb.block _ (J2.1 h.q1).1).trans h.q1,h.ok.below hb,h.apZ.below hb,h.low.trans (hb.mono h.low.size)⟩
theorem arh (k:eA)(a1 a2 a3:Option d_)(c1 c2 c3:Nat)(ps:List af)(w:w_)(b b':Nat)(hs:k.pure.Small)(hk:gp w b k)(hq:gp w b' ⟨k.bE,k.major,k.fn,a1,c1,ps,a2,c2,k.eC,a3,c3⟩)(he:ps.map (·.pure)=k.parts.map (·.pure)):
  k_ J3 9 #[a_ k.row,a_ #[i_ j_ k.bE,i_ j_ k.major,s_ a1 k.fn.length c1,s_ a2 k.parts.length c2,s_ a3 k.eC.length c3]] w λe w'=>e=r_ (b_ true)/\B_ w.heap.size w w':=by
 have hlen:ps.length=k.parts.length:=by have:=congrArg List.length he;simpa using this
 obtain⟨q,hqe⟩:∃q:eA,q=⟨k.bE,k.major,k.fn,a1,c1,ps,a2,c2,k.eC,a3,c3⟩:=⟨_,rfl⟩
 have hrow:q.row=#[i_ j_ k.bE,i_ j_ k.major,s_ a1 k.fn.length c1,s_ a2 k.parts.length c2,s_ a3 k.eC.length c3]:=by rw[hqe];simp[eA.row,hlen]
 rw[<-hqe]at hq;have S:da (apR w w.heap.size (w.heap.size+1) b b' k q ((w.alloc (c_ k.row 30)).alloc (c_ #[i_ j_ k.bE,i_ j_ k.major,s_ a1 k.fn.length c1,s_ a2 k.parts.length c2,s_ a3 k.eC.length c3] 30))):=by
  have hz:B_ w.heap.size w ((w.alloc (c_ k.row 30)).alloc (c_ #[i_ j_ k.bE,i_ j_ k.major,s_ a1 k.fn.length c1,s_ a2 k.parts.length c2,s_ a3 k.eC.length c3] 30)):=((Kp _ _).alloc (Ki _) _).alloc zy _;exact⟨(((Kp _ _).alloc (Ki _) _).block _ zy).trans (Kj _ _),by unfold Tk;rw[hrow];exact Kq _ _ _,hk.below hz,hq.below hz,hz⟩
 have HS:da (k.pure.Small/\q.parts.map (·.pure)=k.parts.map (·.pure)/\q.fn=k.fn/\q.eC=k.eC/\q.vb=a1/\q.qn=a2/\q.qi=a3/\q.row=#[i_ j_ k.bE,i_ j_ k.major,s_ a1 k.fn.length c1,s_ a2 k.parts.length c2,s_ a3 k.eC.length c3]):=⟨hs,by rw[hqe];exact he,by rw[hqe],by rw[hqe],by rw[hqe],by rw[hqe],by rw[hqe],hrow⟩
 clear hs hk hq he hlen hqe hrow;have e0:(k.bE !=k.bE)=false:=zy
 have e1:((k.parts.length:Int)!=(k.parts.length:Int))=false:=zy
 have e2:((k.eC.length:Int)!=(k.eC.length:Int))=false:=zy
 go_enter func9,ntmps9
 go_upto_region 1 with fail;generalize(w.alloc (c_ k.row 30)).alloc (c_ #[i_ j_ k.bE,i_ j_ k.major,s_ a1 k.fn.length c1,s_ a2 k.parts.length c2,s_ a3 k.eC.length c3] 30)=A at*;generalize hY:w.heap.size+1=Y at*;clear hY;have HC:da (∀W,apR w w.heap.size Y b b' k q W->W.cell? ⟨Y,0,n_⟩=o_ (i_ j_ k.bE)/\W.cell? ⟨Y,1,n_⟩=o_ (i_ j_ k.major)/\W.cell? ⟨Y,2,n_⟩=o_ (s_ a1 k.fn.length c1)/\W.cell? ⟨Y,3,n_⟩=o_ (s_ a2 k.parts.length c2)/\W.cell? ⟨Y,4,n_⟩=o_ (s_ a3 k.eC.length c3)):=λW h=>by
  have h5:=h.q1;unfold Tk at h5;rw[HS.I.2.2.2.2.2.2.2]at h5;simp[World.cell?,h5]
 obtain⟨m0,m1,m2,m3,m4⟩:=S.I.k1.cells;obtain⟨n0,n1,n2,n3,n4⟩:=HC.I _ S.I;have Mb:=arp k.major k.vb a1 k.fn k.Te c1 A HS.I.1.Ts (nP S.I.ok.fn) (by have h5:=nP S.I.apZ.fn;rw[HS.I.2.2.1,HS.I.2.2.2.2.1]at h5;exact h5);go_wp2_with fail;clear m0 m1 m2 m3 m4 n0 n1 n2 n3 n4;refine Mb.mono ?_;clear Mb;rintro e af8 ⟨rfl,hb⟩;replace S:=aA (S.I.below hb);clear hb;obtain⟨m0,m1,m2,m3,m4⟩:=S.I.k1.cells;obtain⟨n0,n1,n2,n3,n4⟩:=HC.I _ S.I;go_wp2_with fail;clear m0 m1 m2 m3 m4 n0 n1 n2 n3 n4 e0 e1 e2;have HL:da (q.parts.length=k.parts.length/\k.parts.length<=1048576/\k.eC.length<=1048576):=⟨by have:=congrArg List.length HS.I.2.1;simpa using this,by have:=HS.I.1.sC;simpa[eA.pure]using this,HS.I.1.w8⟩
 go_loopw[5] (λi wr=>∃n:Nat,n<=k.parts.length/\i=i_ j_ n/\da (apR w w.heap.size Y b b' k q wr)) (λi _=>k.parts.length-(Go.RowKit.intOf i).toNat)
 case atStart=>exact⟨0,Ky _,rfl,S⟩
 case round=>
  clear S;obtain⟨n,hn,rfl,S⟩:=hrel;have hl:=HL.I.2.1;have m3:=S.I.k1.cells.2.2.2.1;by_cases hlt:n<k.parts.length
  .have i0:(0:Int)<=(n:Int):=zw
   have i1:(n:Int)<(k.parts.length:Int):=zw
   obtain⟨p,hp⟩:∃p,k.parts[n]? =o_ p:=⟨_,Kz hlt⟩
   obtain⟨x,hx⟩:∃x,q.parts[n]? =o_ x:=⟨_,Kz (by rw[HL.I.1];exact hlt)⟩
   have hpx:x.pure=p.pure:=by
    have h5:=congrArg (λl:List aE=>l[n]?) HS.I.2.1;simpa[hp,hx]using h5
   have HP:=aA (And.intro hp (And.intro hx hpx));obtain⟨gpt,Y5,-⟩:=ic S.I.ok.at.parts hp;obtain⟨gx,gb,-⟩:=ic S.I.apZ.at.parts hx;rw[HS.I.2.2.2.2.2.1]at gb;subst gb;have HG:=aA Y5;have HI:da (∀W,apR w w.heap.size Y b b' k q W->af.In W gpt n p/\af.In W gx n x):=λW h=>by
    obtain⟨g,e,h1,-⟩:=ic h.ok.at.parts HP.I.1;rw[HG.I]at e;cases e;obtain⟨g,e,h2,-⟩:=ic h.apZ.at.parts HP.I.2.1;rw[HS.I.2.2.2.2.2.1]at e;cases e;exact⟨h1,h2⟩
   clear hp hx hpx Y5;go_upto_region 6 with fail;clear m3;refine aT (λW=>da (apR w w.heap.size Y b b' k q W)) ZbG (aA (S.I.below (Kp _ _).drew)) ?_
   iterate 10 (refine PI ?_ (hy:=λw0 hS0=>by obtain⟨m0,m1,m2,m3,m4⟩:=hS0.I.k1.cells;obtain⟨n0,n1,n2,n3,n4⟩:=HC.I _ hS0.I;rw[HG.I]at m3;obtain⟨⟨q0,q1,q2,q3,q4,q5,q6,q7⟩,r0,r1,r2,r3,r4,r5,r6,r7⟩:=HI.I _ hS0.I;go_simp;try with_reducible rfl))
   refine cl (b_ true) 26 #[a_ p.row,a_ x.row] ?_ (λw0 h0=>?_) ?_
   .intro w0 hS0
    go_simp
   .have qY:=HS.I.1.parts _ (Lr.2 ⟨p,KA HP.I.1,rfl⟩)
    exact(show k_ J3 26 #[a_ p.row,a_ x.row] w0 (λe w'=>e=r_ (b_ true)/\B_ w0.heap.size w0 w')from Nn p x w0 b b' qY (h0.I.ok.mine p (KA HP.I.1)) (by rw[HP.I.2.2];exact qY) (h0.I.apZ.mine x (KA HP.I.2.1)) HP.I.2.2.symm).mono λe w1 h=>⟨h.1,aA (h0.I.below h.2)⟩
   simp only[pt,sb,s0,s1];refine PI ?_;refine bk ZbG (λA2 y5=>?_) _;go_wp2_with fail;go_roundw
   case rel=>exact⟨n+1,zw,by go_num,y5⟩
   case measure=>exact ZbL
  .have i1:¬(n:Int)<(k.parts.length:Int):=zw
   go_wp2_with fail;clear m3 i1 hlt hn hl
   go_loopw[6] (λi wr=>∃n:Nat,n<=k.eC.length/\i=i_ j_ n/\da (apR w w.heap.size Y b b' k q wr)) (λi _=>k.eC.length-(Go.RowKit.intOf i).toNat)
   case atStart=>exact⟨0,Ky _,rfl,S⟩
   case round=>
    clear S;obtain⟨n,hn,rfl,S⟩:=hrel;have hl:=HL.I.2.2;have m4:=S.I.k1.cells.2.2.2.2;have n4:=(HC.I _ S.I).2.2.2.2;by_cases hlt:n<k.eC.length
    .have i0:(0:Int)<=(n:Int):=zw
     have i1:(n:Int)<(k.eC.length:Int):=zw
     obtain⟨c,hc⟩:∃c,k.eC[n]? =o_ c:=⟨_,Kz hlt⟩
     obtain⟨gpt,Y5,c0,c1,c2,c3⟩:=TH S.I.ok.at.eC hc;obtain⟨gx,gb,d0,d1,d2,d3⟩:=TH S.I.apZ.at.eC (x:=c) (by rw[HS.I.2.2.2.1];exact hc);rw[HS.I.2.2.2.2.2.2.1]at gb;rw[Y5]at m4;rw[gb]at n4;clear hc Y5 gb;go_wp2_with fail
     go_quiet (fail)
     go_wp2;go_roundw
     case rel=>exact⟨n+1,zw,by go_num,S.I.below ⟨rfl,rfl,rfl,Ki _,λ_ _=>rfl⟩⟩
     case measure=>exact ZbL
    .have i1:¬(n:Int)<(k.eC.length:Int):=zw
     go_wp2_with fail;go_ret;exact⟨rfl,S.I.low⟩
theorem aq5 (k q:eA)(w:w_)(b b':Nat)(hs:k.pure.Small)(hk:gp w b k)(hq:gp w b' q)(he:q.pure=k.pure):
  k_ J3 9 #[a_ k.row,a_ q.row] w λe w'=>e=r_ (b_ true)/\B_ w.heap.size w w':=by
 obtain⟨bE,major,fn,a1,c1,ps,a2,c2,eC,a3,c3⟩:=q;simp only[eA.pure,kd.mk.injEq]at he;obtain⟨rfl,rfl,rfl,hp,rfl⟩:=he;have hl:ps.length=k.parts.length:=by simpa using congrArg List.length hp
 have h:=arh k a1 a2 a3 c1 c2 c3 ps w b b' hs hk hq hp;rw[<-hl]at h;exact h
end Go.Proofs.YtckenjkcmajicaaGreat
