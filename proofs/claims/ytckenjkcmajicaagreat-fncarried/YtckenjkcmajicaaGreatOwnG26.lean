/- What the proof leans on, part 26. -/
import Derived.Test.YtckenjkcmajicaaGreatOwnG23
set_option linter.all false
set_option maxRecDepth 100000
set_option maxHeartbeats 8000000
open Go.Proofs.Tryz
open Go renaming World->w_,Value->v_,Calls->k_,Addr->d_,below_setRow->q_
open Go.Ending renaming returned->r_
open Go.IntKind renaming i64->j_
open Go.Obj renaming cells->c_
open Go.RowKit renaming Below->B_,Hid->da
open Go.Value renaming int->i_,slice->s_,bool->b_,agg->a_,pointer->p_,tuple->u_
open Option renaming some->o_,none->n_
open Go renaming wp_at_succ->Kd,wp_at_zero->Kc
open Go.Proofs.Tryz renaming prog->J3
open Go.RowKit.Below renaming heap_alloc->adD
open List renaming getElem_cons_succ->K1,getElem_cons_zero->K0,getElem_toArray->KZ

namespace Go.Proofs.YtckenjkcmajicaaGreat
open Go.RowKit Go.Maps
attribute [local go_sem ↓] Kc Kd
def allK :List eQ:=[⟨1,1,2,2⟩,⟨2,3,3,4⟩,⟨3,1,1,2⟩,⟨1,3,2,4⟩]
abbrev apg :Array v_:=#[i_ j_ 1,i_ j_ 1,i_ j_ 2,i_ j_ 2,i_ j_ 2,i_ j_ 3,i_ j_ 3,i_ j_ 4,i_ j_ 3,i_ j_ 1,i_ j_ 1,i_ j_ 2,i_ j_ 1,i_ j_ 3,i_ j_ 2,i_ j_ 4]
theorem aqq {W:w_}{G n:Nat}(h:W.heap[G]? =o_ (c_ apg 37))(hn:n<4):∃x:eQ,x.Wf/\eQ.At W G n x/\allK[n]? =o_ x:=by
  rcases n with _|_|_|_|_
  . exact⟨⟨1,1,2,2⟩,⟨rfl,rfl,rfl,rfl⟩,by simp[eQ.At,World.cell?,h],rfl⟩
  . exact⟨⟨2,3,3,4⟩,⟨rfl,rfl,rfl,rfl⟩,by simp[eQ.At,World.cell?,h],rfl⟩
  . exact⟨⟨3,1,1,2⟩,⟨rfl,rfl,rfl,rfl⟩,by simp[eQ.At,World.cell?,h],rfl⟩
  . exact⟨⟨1,3,2,4⟩,⟨rfl,rfl,rfl,rfl⟩,by simp[eQ.At,World.cell?,h],rfl⟩
  . omega
section
variable {r len cap X Y:Nat}{a:Option d_}{w W:w_}{k:eA}
theorem aoy.aqg (h:aoy r a len cap w X k W)(hz:W.heap[Y]? =o_ (c_ T9 30))(hy:X<Y)(hk:Y∉k.Mc)(n:Int):
    k_ J3 59 #[a_ k.row,i_ j_ n] W λe W2=>∃(q:eA)(ok:Bool),e=r_ (u_ #[a_ q.row,b_ ok])/\apU r a len cap w X k Y q ok T9 W2:=by
  obtain⟨g,hg⟩:=h.win;exact(ao0 k n g W h.small hg h.own.at).mono λe W2 hr=>h.ran1 hz hy hk hr
theorem aoy.aqp (h:aoy r a len cap w X k W)(n:Int):
    k_ J3 59 #[a_ k.row,i_ j_ n] W λe W2=>∃(q:eA)(ok:Bool),e=r_ (u_ #[a_ q.row,b_ ok])/\Tk W2 X k/\apU r a len cap w X k W2.heap.size q ok T9 (W2.alloc (c_ T9 30)):=by
  obtain⟨g,hg⟩:=h.win;exact(ao0 k n g W h.small hg h.own.at).mono λe W2 hr=>h.ran2 hr
theorem aoy.boxed (h:aoy r a len cap w X k W):aoy r a len cap w X k (W.alloc (c_ T9 30))/\(W.alloc (c_ T9 30)).heap[W.heap.size]? =o_ (c_ T9 30)/\X<W.heap.size/\W.heap.size∉k.Mc:=
  ⟨h.reads ((Kp _ _).alloc (Ki _) _),Kj _ _,h.lt,λhm=>by have:=(h.own.lt hm).2;omega⟩
end
theorem ap6 (r:Nat)(a:Option d_)(len cap:Nat)(w:w_)(hl:len<=1048576)(h:Rd r a len cap w):
    k_ J3 32 #[p_ (o_ ⟨r,0,n_⟩)] w λe w'=>∃k:eA,e=r_ (a_ k.row)/\gp w' w.heap.size k/\k.pure.Small/\((∃g,k.vb=o_ ⟨g,0,n_⟩/\g<w'.heap.size)/\0<k.fn.length)/\gG r w w'/\Rd r a len cap w':=by
  have h5:=(Kp w.heap.size w).alloc (Ki _) (c_ T9 30);have S:da (Rd r a len cap w/\Rd r a len cap (w.alloc (c_ T9 30))/\gG r w (w.alloc (c_ T9 30))/\(w.alloc (c_ T9 30)).heap[w.heap.size]? =o_ (c_ T9 30)/\(w.alloc (c_ T9 30)).heap.size=w.heap.size+1):=⟨h,h.below h5,gG.dI h5,Kj _ _,by simp⟩
  clear h h5
  go_enter func32,ntmps32
  go_upto_region 1 with fail;generalize w.alloc (c_ T9 30)=A at*;go_wp2_with fail;refine(apH r a len cap A hl S.I.2.1).mono ?_;rintro e A2 ⟨major,g,n,c,xs,rfl,hn,hs,ho,hb,hr⟩;have VH:da (∃l:List pA,l.length=n/\aoy r a len cap w A2.heap.size ⟨0,major,l,o_ ⟨g,0,n_⟩,c,[],n_,0,[],n_,0⟩ ((A2.alloc (c_ T9 30)).setRow A2.heap.size #[i_ j_ 0,i_ j_ major,s_ (o_ ⟨g,0,n_⟩) n c,s_ n_ 0 0,s_ n_ 0 0])):=by
    have hz:=S.I.2.2.2.2;have hrl:=S.I.1.lt;rw[hz]at ho;exact aoy.first hr S.I.1 (S.I.2.2.1.trans hb) hn hs ho ((hb.block _ zw zw).trans S.I.2.2.2.1)
  clear hs hn ho hb hr S;go_upto_region 2 with(refine stK 3 11 #[i_ j_ 0,i_ j_ major,s_ (o_ ⟨g,0,n_⟩) n c,s_ n_ 0 0,s_ n_ 0 0] (Kj _ _) ?_);generalize(A2.alloc (c_ T9 30)).setRow A2.heap.size #[i_ j_ 0,i_ j_ major,s_ (o_ ⟨g,0,n_⟩) n c,s_ n_ 0 0,s_ n_ 0 0]=B at*;generalize A2.heap.size=X at*;go_wp2_with fail
  go_loopw[4] (λi wr=>∃(n:Nat)(k:eA),i=i_ j_ ((n:Int)+1)/\n<=3/\da (aoy r a len cap w X k wr/\k.parts.length=n/\k.eC.length=0/\k.qi=n_)) (λi _=>(4-Go.RowKit.intOf i).toNat)
  case atStart=>
    obtain⟨l, -,hD⟩:=VH.I;exact⟨0,_,rfl,by omega,hD,rfl,rfl,rfl⟩
  case round=>
    clear VH;obtain⟨n,k,rfl,hn,HD⟩:=hrel;by_cases hlt:n<3
    . have i1:(n:Int)+1<=3:=by omega
      have HI:da (cv ((n:Int)+1) 1 6=true):=bz.2 ⟨zw,by omega⟩;go_upto_region 5 with fail;have c3:=HD.I.1.box.cells.2.2.2.1
      go_region_law ((first
        | (rw[if_pos (by rfl)]
           obtain⟨a',c',w',hap,hkb,hdk⟩:=HP.I.2;refine cM _ _ 27 rfl _ _ _ w' rfl rfl hap ?_;have HE:=aA hdk;have c3:=hkb.cells.2.2.2.1;have u3:w'.frozen? ⟨X,3,n_⟩=false:=Ko _ _ _ _ _ hkb;clear hap hkb hdk)
        | (go_simp
           go_at_call 57
           refine(FL r a len cap _ _ hl HI.I (Rd.below HD.I.1.rd (Kp _ _).drew)).mono ?_;rintro e W5 ⟨q,rfl,ho,hs, -,hb,hr⟩;have HP:da (Tk W5 X k/\∃a' c' w',(Builtin.append_ #[27,27] 27 #[s_ k.qn k.parts.length k.sa,s_ (o_ ⟨W5.heap.size,0,n_⟩) 1 1]).run J3 (W5.alloc (c_ q.cells 46))=.ok (s_ a' (k.parts.length+1) c') w'/\Tk w' X k/\aoy r a len cap w X {k with parts:=k.parts++[q],qn:=a',sa:=c'} (w'.setCell ⟨X,3,n_⟩ (s_ a' (k.parts.length+1) c'))):=⟨(HD.I.1.drawn hb.alc hr).box,HD.I.1.part hb.alc hr ho hs (by have:=HD.I.2.1;omega)⟩
           have c5:=HP.I.1.cells.2.2.2.1;have c6:=Tk.cells (show Tk (W5.alloc (c_ q.cells 46)) X k from(adD _ _ _ (by have:=(HD.I.1.drawn hb.alc hr).lt;omega)).trans HP.I.1);replace c6:=c6.2.2.2.1
           try simp only[af.cells]at c6
           clear ho hs hb hr
           try simp only[af.cells])))
      all_goals
        clear c3 c5 c6 u3;generalize World.setCell _ _ _=V at*;go_wp2_with fail;go_roundw
        case rel=>exact⟨n+1,_,by go_num,by omega,HE.I,by have:=HD.I.2.1;simp;omega,HD.I.2.2⟩
        case measure=>simp[Go.RowKit.intOf];omega
    . have i1:¬(n:Int)+1<=3:=by omega
      go_upto_region 7 with fail;have HC:da (aoy r a len cap w X k (wr.alloc (c_ apg 37))/\(wr.alloc (c_ apg 37)).heap[wr.heap.size]? =o_ (c_ apg 37)/\k.eC.length=0/\blk k.qi=[]/\X<wr.heap.size):=⟨HD.I.1.reads ((Kp _ _).alloc (Ki _) _),Kj _ _,HD.I.2.2.1,by rw[HD.I.2.2.2];rfl,HD.I.1.lt⟩
      clear HD i1 hn hlt;generalize wr.alloc (c_ apg 37)=C at*;generalize wr.heap.size=G at*;go_wp2_with fail
      go_loopw[6] (λi wr=>∃(n:Nat)(k:eA),i=i_ j_ n/\n<=4/\da (aoy r a len cap w X k wr/\wr.heap[G]? =o_ (c_ apg 37)/\k.eC.length<=n/\(∀g∈blk k.qi,G<g)/\X<G)) (λi _=>(4-Go.RowKit.intOf i).toNat)
      case atStart=>exact⟨0,k,rfl,by omega,HC.I.1,HC.I.2.1,by have:=HC.I.2.2.1;omega,(λg hg=>by rw[HC.I.2.2.2.1]at hg;cases hg),HC.I.2.2.2.2⟩
      case round=>
        obtain⟨u7,hko⟩:∃u7:eA,u7=k:=⟨_,rfl⟩
        subst hko;clear HC;obtain⟨n,k,rfl,hn,HD⟩:=hrel;by_cases hlt:n<4
        . have i0:(0:Int)<=(n:Int):=by omega
          have i1:(n:Int)<4:=by omega
          go_wp2_with fail;refine(jt r a len cap 2 _ hl zw zw HD.I.1.rd).mono ?_;rintro e W1 ⟨v,rfl,hb,hr⟩;have HD1:da (aoy r a len cap w X k W1/\W1.heap[G]? =o_ (c_ apg 37)):=⟨HD.I.1.drawn hb hr,(hb.block _ (J2.1 HD.I.2.1).1 (by have:=HD.I.1.st.lt;have:=HD.I.1.hx;have:=HD.I.2.2.2.2;omega)).trans HD.I.2.1⟩
          clear hb hr;cases v with
          |false=>
            go_wp2_with fail;go_roundw
            case rel=>exact⟨n+1,k,by go_num,by omega,HD1.I.1,HD1.I.2,by have:=HD.I.2.2.1;omega,HD.I.2.2.2⟩
            case measure=>simp[Go.RowKit.intOf];omega
          |true=>
            go_upto_region 11 with fail;obtain⟨x,hx,⟨y0,y1,y2,y3⟩, -⟩:=aqq HD1.I.2 hlt;have HN:da (∃a' c' w',(Builtin.append_ #[28,28] 28 #[s_ k.qi k.eC.length k.tC,s_ (o_ ⟨W1.drew.heap.size,0,n_⟩) 1 1]).run J3 (W1.drew.alloc (c_ (nx x) 37))=.ok (s_ a' (k.eC.length+1) c') w'/\Tk w' X k/\aoy r a len cap w X {k with eC:=k.eC++[x],qi:=a',tC:=c'} (w'.setCell ⟨X,4,n_⟩ (s_ a' (k.eC.length+1) c'))/\w'.heap[G]? =o_ (c_ apg 37)/\∀g∈blk a',G<g):=by
              have hbd:B_ W1.heap.size W1 W1.drew:=(Kp _ _).drew;obtain⟨a',c',w',h1,h2,h3,h4,h5⟩:=HD1.I.1.chan (gG.dI hbd) (HD1.I.1.rd.below hbd) hx (by have:=HD.I.2.2.1;omega);have hG:=(J2.1 HD1.I.2).1;have hlow:=HD.I.2.2.2.1;exact⟨a',c',w',h1,h2,h3,(h4 G hG λhm=>by have:=hlow G hm;omega).trans HD1.I.2,λg hg=>(h5 g hg).elim (hlow g) λh6=>Kn hG h6⟩
            clear hx;have c4:=HD1.I.1.box.cells.2.2.2.2;have c6:=Tk.cells (show Tk (W1.alloc (c_ (nx x) 37)) X k from(adD _ _ _ HD1.I.1.lt).trans HD1.I.1.box);replace c6:=c6.2.2.2.2
            go_region_law ((first
              | (rw[if_pos (by rfl)]
                 obtain⟨a',c',w',hap,hkb,hdk⟩:=HN.I;refine cM _ _ 28 rfl _ _ _ w' rfl rfl hap ?_;have HE:=aA hdk;have c3:=hkb.cells.2.2.2.2;have u3:w'.frozen? ⟨X,4,n_⟩=false:=Ko _ _ _ _ _ hkb;clear hap hkb hdk)))
            all_goals
              clear c3 c4 c6 u3 y0 y1 y2 y3;have HF:da ((w'.setCell ⟨X,4,n_⟩ (s_ a' (k.eC.length+1) c')).heap[G]? =o_ (c_ apg 37)):=(aH (by have:=HD.I.2.2.2.2;omega)).trans HE.I.2.1;generalize World.setCell _ _ _=V at*;go_wp2_with fail;go_roundw
              case rel=>exact⟨n+1,_,by go_num,by omega,HE.I.1,HF.I,by have:=HD.I.2.2.1;simp;omega,HE.I.2.2,HD.I.2.2.2.2⟩
              case measure=>simp[Go.RowKit.intOf];omega
        . have i1:¬(n:Int)<4:=by omega
          go_upto_region 12 with fail;have HL:da (k.eC.length<=10):=by have:=HD.I.2.2.1;exact(by omega:k.eC.length<=10)
          replace HD:=aA HD.I.1;clear i1 hn hlt
          go_cut [7,8]from 46 (λs7 s8 wx=>∃(Y:Nat)(q:eA)(ok:Bool),s7=p_ (o_ ⟨Y,0,n_⟩)/\s8=b_ ok/\da (apU r a len cap w X k Y q ok q.row wx))
          case first=>
            replace HD:=aA (HD.I.reads (Kp _ _).drew);refine Kr (S:=λW=>Tk W X k) ZbG HD.I.box (λ_=>?_);generalize World.drew _=V at*;refine tt 0 HD.I.box ?_ (hy:=λw0 hS0=>by obtain⟨m0,m1,m2,m3,m4⟩:=hS0.cells;go_simp;try with_reducible rfl);refine tt 1 HD.I.box ?_;refine KW (rs:=[2,7]) ZbG zy ?_;refine KX rfl (λK hK=>?_) (KX rfl (λK hK=>?_) KY)
            focus
              simp only[KZ,K0,K1];rw[if_pos (by rfl)];go_wp2_with fail;refine(dh r a len cap 30 _ hl zw zw HD.I.rd).mono ?_;rintro e W1 ⟨u, -, -,rfl,hb1,hr1⟩;replace HD:=aA (HD.I.drawn hb1 hr1);clear hb1 hr1;refine hK.out _ _ HD.I.box (λ_=>?_);clear hK K
              try simp only[pt,sb,s0,s1]
              refine KW (rs:=[3,7]) ZbG zy ?_;refine KX rfl (λK hK=>?_) (KX rfl (λK hK=>?_) KY)
              focus
                simp only[KZ,K0,K1];rw[if_pos (by rfl)];go_wp2_with fail;refine(HD.I.aqp u).mono ?_;rintro e W2 ⟨q,ok,rfl,hkb,hR⟩;have HR:=aA hR;refine hK.out _ _ hkb (λ_=>?_);clear hK K
                try simp only[pt,sb,s0,s1]
                refine tt 4 hkb ?_;refine tt 5 hkb ?_;refine tt 6 hkb ?_;refine L7 7 (λK hK=>?_);clear hkb hR;go_wp2_with fail;generalize W2.alloc (c_ T9 30)=W3 at*;generalize W2.heap.size=Y at*;refine hK.out _ _ HR.I.dk.box (λ_=>?_);clear hK K
                try simp only[pt,sb,s0,s1]
              rotate_left
              focus
                simp only[KZ,K0,K1];rw[if_pos (by rfl)];go_wp2_with fail;have HZ:=aA HD.I.boxed;generalize W1.alloc (c_ T9 30)=W2 at*;generalize W1.heap.size=Y at*;refine hK.out _ _ HZ.I.1.box (λ_=>?_);clear hK K
                try simp only[pt,sb,s0,s1]
                refine L7 3 (λK hK=>?_);go_wp2_with fail;refine(HZ.I.1.aqg HZ.I.2.1 HZ.I.2.2.1 HZ.I.2.2.2 u).mono ?_;rintro e W3 ⟨q,ok,rfl,hR⟩;have HR:=aA hR;clear hR;refine hK.out _ _ HR.I.dk.box (λ_=>?_);clear hK K
                try simp only[pt,sb,s0,s1]
                refine tt 4 HR.I.dk.box ?_;refine tt 5 HR.I.dk.box ?_;refine tt 6 HR.I.dk.box ?_
            rotate_left 2
            focus
              simp only[KZ,K0,K1];rw[if_pos (by rfl)];go_wp2_with fail;have HZ:=aA HD.I.boxed;generalize V.alloc (c_ T9 30)=W1 at*;generalize V.heap.size=Y at*;refine hK.out _ _ HZ.I.1.box (λ_=>?_);clear hK K
              try simp only[pt,sb,s0,s1]
              refine L7 2 (λK hK=>?_);go_wp2_with fail;refine(dh r a len cap 30 _ hl zw zw HZ.I.1.rd).mono ?_;rintro e W2 ⟨u, -, -,rfl,hb1,hr1⟩;have iP:da (aoy r a len cap w X k W2/\W2.heap[Y]? =o_ (c_ T9 30)/\X<Y/\Y∉k.Mc):=⟨HZ.I.1.drawn hb1 hr1,(hb1.block _ (J2.1 HZ.I.2.1).1 (by have:=HD.I.st.lt;have:=HD.I.hx;have:=HZ.I.2.2.1;omega)).trans HZ.I.2.1,HZ.I.2.2⟩
              clear hb1 hr1;refine hK.out _ _ iP.I.1.box (λ_=>?_);clear hK K
              try simp only[pt,sb,s0,s1]
              refine L7 3 (λK hK=>?_);go_wp2_with fail;refine(iP.I.1.aqg iP.I.2.1 iP.I.2.2.1 iP.I.2.2.2 u).mono ?_;rintro e W3 ⟨q,ok,rfl,hR⟩;have HR:=aA hR;clear hR;refine hK.out _ _ HR.I.dk.box (λ_=>?_);clear hK K
              try simp only[pt,sb,s0,s1]
              refine tt 4 HR.I.dk.box ?_;refine tt 5 HR.I.dk.box ?_;refine tt 6 HR.I.dk.box ?_
            all_goals
              refine L7 8 (λK hK=>?_);refine LY 30 (.tmp 7) (.tmp 51) rfl Y q.row rfl rfl _ _ HR.I.box ZbG rfl ZbG ?_;replace HR:=aA (HR.I.put (c2:=q.row));refine hK.out _ _ HR.I.dk.box (λ_=>?_);clear hK K;refine tt 9 HR.I.dk.box ?_;refine K3 ZbG ?_ _;go_wp2_with fail;go_meet;exact⟨Y,q,ok,rfl,rfl,HR⟩
          case rest=>
            clear HD;obtain⟨Y,q,ok,rfl,rfl,HR⟩:=hcut
            go_upto_if 53 with fail
            go_cut []from 46 (λwx=>∃k2:eA,da (aoy r a len cap w X k2 wx/\k2.eC.length<=10))
            case first=>
              cases ok with
              |false=>
                go_wp2_with fail;go_meet;exact⟨k,HR.I.dk,HL.I⟩
              |true=>
                obtain⟨m0,m1,m2,m3,m4⟩:=Tk.cells HR.I.box;go_wp2_with(refine stK 3 54 q.row HR.I.dk.box ?_);go_meet;obtain⟨h1,h2,h3,h4⟩:=HR.I.good rfl;exact⟨q,HR.I.dk.ju h1 h2 h4 h3.2,h3.1⟩
            case rest=>
              clear HR HL;obtain⟨kc,hkc⟩:∃kc:eA,kc=k:=⟨_,rfl⟩
              subst hkc;obtain⟨k,HK⟩:=hcut;go_wp2_with fail;refine(dh r a len cap 40 _ hl zw zw HK.I.1.rd).mono ?_;rintro e YI ⟨u,an3,ub,rfl,hb,hr⟩;replace HK:=aA (And.intro (HK.I.1.drawn hb hr) HK.I.2);clear hb hr;by_cases h38:u=38
              . have e1:(u==38)=true:=by simp[h38]
                clear h38;go_upto_region 17 with fail;clear e1 an3 ub;have c4:=HK.I.1.box.cells.2.2.2.2
                go_region_law ((first
                  | (have hz2:=iP.I
                     rw[if_pos (by rfl)];obtain⟨a',c',w',hap,hkb,hdk, -⟩:=HK.I.1.chan (x:=⟨u1,z1,u2,z2⟩) (gG.refl _ _) HK.I.1.rd ⟨HU1.I,rc.I,HU2.I,hz2⟩ (by have:=HK.I.2;omega);refine cM _ _ 28 rfl _ _ _ w' rfl rfl hap ?_;obtain⟨k3,HE⟩:∃k3,da (aoy r a len cap w X k3 (w'.setCell ⟨X,4,n_⟩ (s_ a' (k.eC.length+1) c'))):=⟨_,hdk⟩
                     have c3:=hkb.cells.2.2.2.2;have u3:w'.frozen? ⟨X,4,n_⟩=false:=Ko _ _ _ _ _ hkb;clear hap hkb hdk hz2)
                  | (have hu2:=HU2.I
                     clear hu2
                     go_simp
                     go_at_call 33
                     refine(Gk r a len cap 1 4 _ hl zw zw zw HK.I.1.rd).mono ?_;rintro e V4 ⟨z2,rfl,hz,hb,hr⟩;replace HK:=aA (And.intro (HK.I.1.drawn hb hr) HK.I.2);have iP:da ((Lit.int j_ z2).wf=true):=hz;have c4:=HK.I.1.box.cells.2.2.2.2;have c6:=Tk.cells (show Tk (V4.alloc (c_ #[i_ j_ u1,i_ j_ z1,i_ j_ u2,i_ j_ z2] 37)) X k from(adD _ _ _ HK.I.1.lt).trans HK.I.1.box);replace c6:=c6.2.2.2.2;clear hz hb hr)
                  | (have hz1:=rc.I
                     clear hz1
                     go_simp
                     go_at_call 60
                     refine(dh r a len cap 4 _ hl zw zw HK.I.1.rd).mono ?_;rintro e V3 ⟨u2,an3,ub,rfl,hb,hr⟩;replace HK:=aA (And.intro (HK.I.1.drawn hb hr) HK.I.2);have HU2:da ((Lit.int j_ u2).wf=true):=pT zw zw;have c4:=HK.I.1.box.cells.2.2.2.2;clear an3 ub hb hr)
                  | (have hu1:=HU1.I
                     clear hu1
                     go_simp
                     go_at_call 33
                     refine(Gk r a len cap 1 4 _ hl zw zw zw HK.I.1.rd).mono ?_;rintro e V2 ⟨z1,rfl,hz,hb,hr⟩;replace HK:=aA (And.intro (HK.I.1.drawn hb hr) HK.I.2);have rc:da ((Lit.int j_ z1).wf=true):=hz;have c4:=HK.I.1.box.cells.2.2.2.2;clear hz hb hr)
                  | (go_simp
                     go_at_call 60
                     refine(dh r a len cap 4 _ hl zw zw (HK.I.1.rd.below (Kp _ _).drew)).mono ?_;rintro e V1 ⟨u1,an3,ub,rfl,hb,hr⟩;replace HK:=aA (And.intro (HK.I.1.drawn hb.alc hr) HK.I.2);have HU1:da ((Lit.int j_ u1).wf=true):=pT zw zw;have c4:=HK.I.1.box.cells.2.2.2.2;clear an3 ub hb hr)))
                all_goals
                  clear c3 c4 c6 u3;generalize World.setCell _ _ _=V at*;obtain⟨m0,m1,m2,m3,m4⟩:=HE.I.box.cells;go_wp2_with(refine stK 2 78 _ HE.I.mK ?_);refine rtK results32 HE.I.mK ?_;exact⟨_,rfl,HE.I.fin⟩
              have e1:(u==38)=false:=by simp[h38]
              clear h38;by_cases h39:u=39
              . have e2:(u==39)=true:=by simp[h39]
                clear h39;go_wp2_with fail;refine(Gk r a len cap 0 9 _ hl zw zw zw HK.I.1.rd).mono ?_;rintro e V1 ⟨z,rfl, -,hb,hr⟩;replace HK:=aA (HK.I.1.drawn hb hr);obtain⟨k3,HE⟩:∃k3,da (aoy r a len cap w X k3 (V1.setCell ⟨X,0,n_⟩ (i_ j_ z))):=⟨_,HK.I.time⟩
                have c0:=HK.I.box.cells.1;have u0:V1.frozen? ⟨X,0,n_⟩=false:=Ko _ _ _ _ _ HK.I.box;clear hb hr;go_upto_region 20 with fail;clear c0 u0;generalize World.setCell _ _ _=V at*;exact Zar
              have e2:(u==39)=false:=by simp[h39]
              clear h39;have HE:=aA HK.I.1;exact Zar
end Go.Proofs.YtckenjkcmajicaaGreat

namespace Go.Proofs.YtckenjkcmajicaaGreat
open Go.RowKit Go.Maps
attribute [local go_sem ↓] Kc Kd
structure aoB (a:Option d_)(len cap:Nat)(w:w_)(X:Nat)(k:eA)(W:w_):Prop where
 rd:Rd (w.heap.size+1) a len cap W
 low:B_ w.heap.size w W
 own:gp W (w.heap.size+2) k
 small:k.pure.Small
 win:∃g,k.vb=o_ ⟨g,0,n_⟩/\g<W.heap.size
 ne:0<k.fn.length
 box:Tk W X k
 mK:W.heap[w.heap.size]? =o_ (c_ T9 30)
 hx:w.heap.size+1<X
section
variable {len cap X:Nat}{a:Option d_}{w W W2:w_}{k:eA}
theorem aoB.drawn (h:aoB a len cap w X k W)(hb:gG (w.heap.size+1) W W2)(hr:Rd (w.heap.size+1) a len cap W2):aoB a len cap w X k W2:=by
 have hx:=h.hx;have hl:=(J2.1 h.box).1;have hs:=h.low.size;obtain⟨g,hg,hgl⟩:=h.win;exact⟨hr,h.low.trans (hb.below zw hs),h.own.same λb hm=>hb.block b (h.own.lt hm).2 Zdy,h.small,⟨g,hg,Kn hgl hb.size⟩,h.ne,(hb.block _ hl zw).trans h.box,(hb.block _ (J2.1 h.mK).1 zw).trans h.mK,hx⟩
def apQ (w:w_)(e:Ending)(w':w_):Prop:=∃(k:eA)(z:Int),e=r_ (u_ #[a_ k.row,i_ j_ z])/\(Lit.int j_ z).wf=true/\gp w' w.heap.size k/\k.pure.Small/\((∃g,k.vb=o_ ⟨g,0,n_⟩/\g<w'.heap.size)/\0<k.fn.length)/\B_ w.heap.size w w'
theorem aoB.fin {z:Int}(h:aoB a len cap w X k W)(hz:(Lit.int j_ z).wf=true):apQ w (r_ (u_ #[a_ k.row,i_ j_ z])) (W.setRow w.heap.size k.row):=
 ⟨k,z,rfl,hz,(h.own.lower zw).same λb hm=>KH _ _ _ _ Zdy,h.small,⟨by rw[setRow_size];exact h.win,h.ne⟩,q_ h.low (Ki _) _⟩
end
theorem apJ (a:Option d_)(len cap:Nat)(w:w_)(hl:len<=1048576)(hb:Bytes w a len):
  k_ J3 17 #[s_ a len cap] w λe w'=>apQ w e w':=by
 have h5:B_ w.heap.size w (w.alloc (c_ T9 30)):=(Kp w.heap.size w).alloc (Ki _) _;have S:da (B_ w.heap.size w (w.alloc (c_ T9 30))/\(w.alloc (c_ T9 30)).heap[w.heap.size]? =o_ (c_ T9 30)/\(w.alloc (c_ T9 30)).heap.size=w.heap.size+1/\Bytes (w.alloc (c_ T9 30)) a len):=⟨h5,(Kj _ _),zy,hb.below h5⟩
 clear hb h5
 go_enter func17,ntmps17
 go_upto_region 1 with fail;generalize w.alloc (c_ T9 30)=A at*;go_wp2_with fail;refine(Gj a len cap A S.I.2.2.2).mono ?_;rintro e af8 ⟨rfl,hb1,hr1,-⟩;go_wp2_with fail;refine(ap6 A.heap.size a len cap af8 hl hr1).mono ?_;rintro e A2 ⟨k,rfl,ho,hs,⟨⟨g,hg,hgl⟩,hne⟩,hb2,hr2⟩;have HD:da (aoB a len cap w A2.heap.size k ((A2.alloc (c_ T9 30)).setRow A2.heap.size k.row)):=by
  obtain⟨s1,s2,s3,-⟩:=S.I;have z1:=hb1.size;have z2:=hb2.size;have zr:=hr1.lt;rw[s3]at hb1 hr1 hb2 hr2 zr;have hq:B_ A2.heap.size A2 ((A2.alloc (c_ T9 30)).setRow A2.heap.size k.row):=q_ ((Kp _ _).alloc (Ki _) _) (Ki _) _;have hlow:B_ w.heap.size w A2:=(s1.trans (hb1.mono zw)).trans (hb2.below zw zw);exact⟨hr2.below hq,hlow.trans (hq.mono zw),(ho.lower zw).below hq,hs,⟨g,hg,Kn hgl hq.size⟩,hne,KU _ _ _ _ _ _ (Kj _ _),(hq.block _ zw).trans ((hb2.block _ zw zw).trans ((hb1.block _ zw).trans s2)),zw⟩
 have HZ:=aA S.I.2.2.1;clear hg hgl ho hs hb1 hr1 hb2 hr2 S;go_upto_region 3 with(refine stK 5 9 k.row (Kj _ _) ?_);generalize(A2.alloc (c_ T9 30)).setRow A2.heap.size k.row=B at*;generalize A2.heap.size=X at*;have hbd:B_ B.heap.size B B.drew:=(Kp _ _).drew;replace HD:=aA (HD.I.drawn (gG.dI hbd) (HD.I.rd.below hbd));clear hbd;refine Kr (S:=λW=>Tk W X k) ZbG HD.I.box (λ_=>?_);generalize World.drew _=V at*;refine tt 0 HD.I.box ?_ (hy:=λw0 hS0=>by obtain⟨m0,m1,m2,m3,m4⟩:=hS0.cells;go_simp;try with_reducible rfl);refine tt 1 HD.I.box ?_;refine L7 2 (λK hK=>?_);go_wp2_with fail;refine(Gk A.heap.size a len cap 1 3 _ hl zw zw zw (by rw[HZ.I];exact HD.I.rd)).mono ?_;rintro e W1 ⟨z,rfl,hz,hb1,hr1⟩;have HW:=aA hz;rw[HZ.I]at hb1 hr1;replace HD:=aA (HD.I.drawn hb1 hr1);clear hb1 hr1 hz;refine hK.out _ _ HD.I.box (λ_=>?_);clear hK K
 try simp only[pt,sb,s0,s1]
 refine L7 3 (λK hK=>?_);refine LY 30 (.tmp 2) (.tmp 10) rfl w.heap.size k.row rfl rfl _ _ HD.I.mK ZbG rfl ZbG ?_;have lW:Tk (W1.setRow w.heap.size k.row) X k:=(KH _ _ _ _ (by have:=HD.I.hx;omega)).trans HD.I.box;refine hK.out _ _ lW (λ_=>?_);clear hK K;refine tt 4 lW ?_;clear lW;refine K3 ZbG ?_ _;go_wp2_with fail;refine aaf results17 (i_ j_ z) HD.I.mK ?_;exact HD.I.fin HW.I
theorem aqT (a:Option d_)(len cap:Nat)(w:w_)(hl:len<=1048576)(hb:Bytes w a len):
  k_ J3 6 #[s_ a len cap] w λe w'=>apQ w e w':=by
 have h5:B_ w.heap.size w (w.alloc (c_ T9 30)):=(Kp w.heap.size w).alloc (Ki _) _;have S:da (B_ w.heap.size w (w.alloc (c_ T9 30))/\(w.alloc (c_ T9 30)).heap[w.heap.size]? =o_ (c_ T9 30)/\(w.alloc (c_ T9 30)).heap.size=w.heap.size+1/\Bytes (w.alloc (c_ T9 30)) a len):=⟨h5,(Kj _ _),zy,hb.below h5⟩
 clear hb h5
 go_enter func6,ntmps6
 go_upto_region 1 with fail;generalize w.alloc (c_ T9 30)=A at*;go_wp2_with fail;refine(apJ a len cap A hl S.I.2.2.2).mono ?_;rintro e W ⟨k,z,rfl,hz,ho,hs,⟨⟨g,hg,hgl⟩,hne⟩,hb⟩;have HA:da (W.heap[w.heap.size]? =o_ (c_ T9 30)):=(hb.block _ ZeW).trans S.I.2.1;have HR:da (apQ w (r_ (u_ #[a_ k.row,i_ j_ z])) (W.setRow w.heap.size k.row)):=by
  obtain⟨s1,s2,s3,-⟩:=S.I;exact⟨k,z,rfl,hz,(ho.lower zw).same λb hm=>KH _ _ _ _ Zdl,hs,⟨⟨g,hg,by rw[setRow_size];exact hgl⟩,hne⟩,q_ (s1.trans (hb.mono zw)) (Ki _) _⟩
 clear hg hgl ho hs hb hz S;go_wp2_with(refine stK 2 6 k.row HA.I ?_);refine aaf results6 (i_ j_ z) HA.I ?_;exact HR.I
end Go.Proofs.YtckenjkcmajicaaGreat
