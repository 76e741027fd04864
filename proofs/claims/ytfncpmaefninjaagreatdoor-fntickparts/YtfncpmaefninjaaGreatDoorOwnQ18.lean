/- What the proof leans on, part 18. -/
import Derived.Test.YtfncpmaefninjaaGreatDoorOwnQ13
set_option linter.all false
set_option maxRecDepth 100000
set_option maxHeartbeats 8000000
open Go.Proofs.Tryz
open Go renaming World->w_,Value->v_,Calls->k_,Addr->d_,TypeId->T_,below_setRow->q_
open Go.IntKind renaming i64->j_
open Go.Obj renaming cells->c_
open Go.RowKit renaming Below->B_,Hid->bN
open Go.Value renaming int->i_,slice->s_,bool->b_,string->t_,agg->a_
open Option renaming some->o_,none->n_
open Go renaming wp_at_succ->Kd,wp_at_zero->Kc
open Go.Proofs.Tryz renaming prog->J3
open List renaming length_cons->Lg,length_nil->K4

open Go.RowKit
namespace Go.Proofs.YtfncpmaefninjaaGreatDoor
section
open Go.Maps
attribute [local go_sem ↓] Kc Kd
structure ng {α:Type} (K:Kind α) (T:T_) (W w:w_) (acc:List α) (a:Option d_) (c:Nat):Prop where
 own:w.ownsRow W.heap.size T K.n (s_ a acc.length c) acc.length (K.flat acc)
 cd:B_ W.heap.size W w
theorem ng.start {α:Type} {K:Kind α} {T:T_} {W:w_} :ng K T W (W.alloc (c_ #[] T)) [] (o_ ⟨W.heap.size,0,n_⟩) 0:=⟨i6 (Kj _ _) (Ki _),(Kp _ _).alloc (Ki _) _⟩
theorem ng.add {α:Type} {K:Kind α} {T:T_} {W w:w_} {acc:List α} {a:Option d_} {c:Nat} (h:ng K T W w acc a c) (t:T_) (bytes:Nat) {z0:v_} {P:Program} (ht:P.underlying t=o_ (.slice T))
  (hi:(P.info? T).map (fun i=>(i.zero,i.size,i.bytes))=o_ (o_ z0,K.n,bytes)) (hz:z0.cells.size=K.n) (hn:0 < K.n) (hby:bytes<=1000) (z:α) (zs:Array v_) (hzs:zs.toList=K.vals z) (h1: ∀ u∈K.vals z,u.oneCell'=true) (hl:acc.length<=2000000):
  ∃ a' c' w',(Builtin.append_ #[t,t] t #[s_ a acc.length c,s_ (o_ ⟨w.heap.size,0,n_⟩) 1 1]).run P (w.alloc (c_ zs T))= .ok (s_ a' (acc.length+1) c') w'/\ng K T W w' (acc ++ [z]) a' c':=by
 obtain ⟨i,hi,e⟩:=Kw.1 hi;simp only [Kx] at e;have b1:B_ w.heap.size w (w.alloc (c_ zs T)):=(Kp _ _).alloc (Ki _) _;have b2:=h.cd.trans (b1.mono h.cd.size);obtain ⟨a',c',w',hr,ho,hg,-⟩:=jD (P:=P) (w.alloc (c_ zs T)) W.heap.size t t T i z0 K.n bytes ht hi e.1 e.2.1 e.2.2 hz hn a acc.length c _ (cR h.own b1) (o_ ⟨w.heap.size,0,n_⟩) 1 1 (K.vals z) (by rw [<- hzs]; exact jO (Kj _ _)) (by rw [K.len,Nat.one_mul]) h1 zo hby b2.size;refine ⟨a',c',w',hr,⟨?_,b2.grown hg b2.size fun k e=>(cf h.own (di e)).1⟩⟩;exact Za8
theorem DQ {p q:af} {w W W2 w9:w_} {o b0 n9 c9:Nat} {x:ao} {xp:aD} {acc:List ao} {a9:Option d_} (hB:av W2 w.heap.size p/\ap W2 b0 p/\B_ w.heap.size w W2/\W2.heap[w.heap.size+1]? =o_ (c_ ar 31))
  (hQ:av W2 o q/\ap W2 W.heap.size q/\q.pure=p.pure/\(∀ g∈q.Mc,g < o)/\W.heap.size<=o/\w.heap.size+1 < W.heap.size/\o < W2.heap.size) (hpb: ∀ g∈p.Mc,g < w.heap.size) (hl:ng bg 41 W2 w9 acc a9 c9) (ha:acc=bY (fun y:ao=>y.id) x q.L8) (hn:acc.length=n9) (hx:x.toaD=xp)
  (hk: ∀ g,aR.bt x=o_ g->g∉q.Mc/\g≠o) (hm:aR.cO W2 W.heap.size x):
  (av (w9.setCell ⟨o,2,n_⟩ (s_ a9 n9 c9)) w.heap.size p/\ap (w9.setCell ⟨o,2,n_⟩ (s_ a9 n9 c9)) b0 p/\B_ w.heap.size w (w9.setCell ⟨o,2,n_⟩ (s_ a9 n9 c9))/\(w9.setCell ⟨o,2,n_⟩ (s_ a9 n9 c9)).heap[w.heap.size+1]? =o_ (c_ ar 31))/\av (w9.setCell ⟨o,2,n_⟩ (s_ a9 n9 c9)) o ({ q with L8:=acc,aN:=a9,aW:=c9 } :af)/\ap (w9.setCell ⟨o,2,n_⟩ (s_ a9 n9 c9)) W.heap.size ({ q with L8:=acc,aN:=a9,aW:=c9 } :af)/\({ q with L8:=acc,aN:=a9,aW:=c9 } :af).pure= { p.pure with L8:=bY (·.id) xp p.pure.L8 } :=by
 have hb:=hl.cd;have nW:=hQ.2.2.2.1;have sm: ∀ g,g < W2.heap.size->g≠o->(w9.setCell ⟨o,2,n_⟩ (s_ a9 n9 c9)).heap[g]? =W2.heap[g]? :=fun g hg hne=>(aH hne).trans (hb.block _ hg)
 have lY:B_ w.heap.size w (w9.setCell ⟨o,2,n_⟩ (s_ a9 n9 c9)):=bP (hB.2.2.1.trans (hb.mono zo)) zo;have iH: ∀ g∈acc.filterMap aR.bt,g∈q.L8.filterMap aR.bt\/aR.bt x=o_ g:=fun g hg=>by
  exact Zaf
 have hin: ∀ g∈q.L8.filterMap aR.bt,g∈q.Mc:=fun g hg=>by simp only [af.Mc,Kg]; simp [hg]
 refine ⟨⟨(sm _ zo zo).trans hB.1,hB.2.1.same fun g hg=>sm g ZcB ZcB,lY,(sm _ zo zo).trans hB.2.2.2⟩,?_,?_,?_⟩
 .have h5:=cx (i:=2) (v:=s_ a9 n9 c9) ((hb.block _ hQ.2.2.2.2.2.2).trans hQ.1)
  unfold av;simp only [hn];exact h5
 .refine hQ.2.1.IX (B:=W2.heap.size) zo (fun g hg=>by have:=nW g hg; omega) (fun g hg=>sm g ZcE ZcE) ?_ (fun z hz=> ?_) ?_ (fun g hg=> ?_) (fun g hg=> ?_)
  .exact Zbn
  .rw [ha] at hz
   rcases fq.1 hz with rfl | hz
   .exact ZbC
   .refine (hQ.2.1.eI z hz).same fun g hg=> ?_
    exact Za0
  .have h5:=hQ.2.1.nodup
   simp only [af.Mc,Kf] at h5;have h6:(q.L8.filterMap aR.bt).Nodup:=h5.2.1.1;have hp:(acc.filterMap aR.bt).Perm ((x :: q.L8).filterMap aR.bt):=by rw [ha]; exact (pz x _).filterMap _
   refine hp.nodup_iff.2 ?_;cases he:aR.bt x with
   | none=>rw [List.filterMap_cons_none he]; exact h6
   | some g=>rw [List.filterMap_cons_some he]; exact Lp.2 ⟨fun h7=>(hk g he).1 (hin g h7),h6⟩
  .exact Zbc
  .exact ZaT
 .show ({ q.pure with L8:=acc.map (·.toaD) } :aE)=_
  have e1:q.L8.map (·.toaD)=p.pure.L8:=congrArg aE.L8 hQ.2.2.1;rw [ha,rF (je:=(·.id)) (fun y:ao=>y.toaD) (fun _=>rfl),e1,hx,hQ.2.2.1]
theorem sB (p:af) (id RX:Int) (pa:Option d_) (ops:List dN) (pc:Nat) (w:w_) (b0:Nat) (hwf:(Lit.int j_ id).wf=true) (hop:ops.length<=1048576/\ ∀ o∈ops,o.2.2.2.size<=1048576) (hrow:Row w pa (fk.flat ops)) (qY:p.pure.Small) (h:ap w b0 p):
  k_ J3 78 #[a_ p.cells,i_ j_ id,i_ j_ RX,s_ pa ops.length pc] w fun e w'=>gI w (cB p.pure { p.pure with L8:=bY (·.id) (newP id RX ops) p.pure.L8 }) e w':=by
 have HB:bN (av ((w.alloc (c_ p.cells 31)).alloc (c_ ar 31)) w.heap.size p/\ap ((w.alloc (c_ p.cells 31)).alloc (c_ ar 31)) b0 p/\B_ w.heap.size w ((w.alloc (c_ p.cells 31)).alloc (c_ ar 31))/\((w.alloc (c_ p.cells 31)).alloc (c_ ar 31)).heap[w.heap.size+1]? =o_ (c_ ar 31)):=by
  have b1:B_ w.heap.size w ((w.alloc (c_ p.cells 31)).alloc (c_ ar 31)):=dT _ _ _;exact ⟨(cZ _ _ _).1,h.below b1,b1,(cZ _ _ _).2⟩
 have fl:bN (p.Fit/\(∀ x∈p.L8,x.dX)/\p.pure.Small/\(Lit.int j_ id).wf=true):=⟨dV qY,fun x hx=>(cY qY hx).1,qY,hwf⟩
 have tc:bN ((ops.length<=1048576/\ ∀ o∈ops,o.2.2.2.size<=1048576)/\Row w pa (fk.flat ops)):=⟨hop,hrow⟩
 have hpl:p.L8.length<=1048576:=fl.I.1.short.L8;have pd: ∀ g∈p.Mc,g < w.heap.size:=fun g hg=>(h.lt g hg).2
 clear h qY hwf hop hrow;obtain ⟨m0,m1,m2,m3,m4,m5,m6,m7⟩:=HB.I.1.cells;unfold af.cells at *
 go_enter func78,ntmps78
 go_wp2_with fail;generalize (w.alloc (c_ p.row 31)).alloc (c_ ar 31)=W at *;clear m0 m1 m2 m3 m4 m5 m6 m7;refine (fR p W fl.I.1 fl.I.2.1 HB.I.2.1.at).mono ?_;rintro e W1 ⟨q,rfl,hown,gn,hb1⟩;have hb2:B_ W1.heap.size W1 (W1.alloc (c_ q.cells 31)):=(Kp _ _).alloc (Ki _) _;have hlt:w.heap.size+1 < W.heap.size:=(J2.1 HB.I.2.2.2).1;have hq1: ∀ g∈q.Mc,g < W1.heap.size:=fun g hg=>(hown.lt g hg).2
 have hql:q.L8.length<=1048576:=by have e1:=congrArg (fun z=>z.L8.length) gn; simp only [af.pure,KG] at e1; omega
 have hs2:(W1.alloc (c_ q.cells 31)).heap.size=W1.heap.size+1:=by simp
 have hb3:B_ (W1.heap.size+1) (W1.alloc (c_ q.cells 31)) ((W1.alloc (c_ q.cells 31)).alloc (c_ #[] 45)):=by rw [<- hs2]; exact (Kp _ _).alloc (Ki _) _
 have hbW:B_ w.heap.size w ((W1.alloc (c_ q.cells 31)).alloc (c_ #[] 45)):=HB.I.2.2.1.trans ((hb1.trans ((hb2.trans (hb3.mono zo)).mono hb1.size)).mono HB.I.2.2.1.size);obtain ⟨xa,xc,w4,hap,ho4,hg4,-⟩:=Gg ((W1.alloc (c_ q.cells 31)).alloc (c_ #[] 45)) (W1.heap.size+1) (W1.heap.size+1) (by have h5:=Kj (W1.alloc (c_ q.cells 31)) (c_ #[] 45); rw [hs2] at h5; exact h5) (Ki _) pa ops pc (tc.I.2.below hbW) tc.I.1.1 (by have:=hb3.size; omega);have hb4:B_ (W1.heap.size+1) (W1.alloc (c_ q.cells 31)) w4:=hb3.grown hg4 (by have:=hb3.size; omega) fun c e=>by cases e; exact Ki _
 have anE:W1.heap.size+1<=w4.heap.size:=by have:=hb4.size; omega
 have iJ:B_ (W1.heap.size+1) (W1.alloc (c_ q.cells 31)) (w4.alloc (c_ #[i_ j_ id,i_ j_ RX,s_ xa ops.length xc,i_ j_ 0,i_ j_ 0,i_ j_ 0,i_ j_ 0,i_ j_ 0,t_ ⟨#[]⟩,t_ ⟨#[]⟩,i_ j_ 0,i_ j_ 0] 41)):=hb4.alloc anE _;have jQ:B_ W1.heap.size W1 (w4.alloc (c_ #[i_ j_ id,i_ j_ RX,s_ xa ops.length xc,i_ j_ 0,i_ j_ 0,i_ j_ 0,i_ j_ 0,i_ j_ 0,t_ ⟨#[]⟩,t_ ⟨#[]⟩,i_ j_ 0,i_ j_ 0] 41)):=hb2.trans (iJ.mono zo);have gh:B_ W.heap.size W (w4.alloc (c_ #[i_ j_ id,i_ j_ RX,s_ xa ops.length xc,i_ j_ 0,i_ j_ 0,i_ j_ 0,i_ j_ 0,i_ j_ 0,t_ ⟨#[]⟩,t_ ⟨#[]⟩,i_ j_ 0,i_ j_ 0] 41)):=hb1.trans (jQ.mono hb1.size);have HX:bN ((w4.alloc (c_ #[i_ j_ id,i_ j_ RX,s_ xa ops.length xc,i_ j_ 0,i_ j_ 0,i_ j_ 0,i_ j_ 0,i_ j_ 0,t_ ⟨#[]⟩,t_ ⟨#[]⟩,i_ j_ 0,i_ j_ 0] 41)).heap[w4.heap.size]? =o_ (c_ #[i_ j_ id,i_ j_ RX,s_ xa ops.length xc,i_ j_ 0,i_ j_ 0,i_ j_ 0,i_ j_ 0,i_ j_ 0,t_ ⟨#[]⟩,t_ ⟨#[]⟩,i_ j_ 0,i_ j_ 0] 41)/\aR.cO (w4.alloc (c_ #[i_ j_ id,i_ j_ RX,s_ xa ops.length xc,i_ j_ 0,i_ j_ 0,i_ j_ 0,i_ j_ 0,i_ j_ 0,t_ ⟨#[]⟩,t_ ⟨#[]⟩,i_ j_ 0,i_ j_ 0] 41)) (W1.heap.size+1) (⟨newP id RX ops,xa,xc⟩:ao)/\w4.heap.size < (w4.alloc (c_ #[i_ j_ id,i_ j_ RX,s_ xa ops.length xc,i_ j_ 0,i_ j_ 0,i_ j_ 0,i_ j_ 0,i_ j_ 0,t_ ⟨#[]⟩,t_ ⟨#[]⟩,i_ j_ 0,i_ j_ 0] 41)).heap.size):=⟨Kj _ _,cR ho4 ((Kp _ _).alloc (Ki _) _),by simp⟩
 have HQ:bN (av (w4.alloc (c_ #[i_ j_ id,i_ j_ RX,s_ xa ops.length xc,i_ j_ 0,i_ j_ 0,i_ j_ 0,i_ j_ 0,i_ j_ 0,t_ ⟨#[]⟩,t_ ⟨#[]⟩,i_ j_ 0,i_ j_ 0] 41)) W1.heap.size q/\ap (w4.alloc (c_ #[i_ j_ id,i_ j_ RX,s_ xa ops.length xc,i_ j_ 0,i_ j_ 0,i_ j_ 0,i_ j_ 0,i_ j_ 0,t_ ⟨#[]⟩,t_ ⟨#[]⟩,i_ j_ 0,i_ j_ 0] 41)) W.heap.size q/\q.pure=p.pure/\(∀ g∈q.Mc,g < W1.heap.size)/\W.heap.size<=W1.heap.size/\w.heap.size+1 < W.heap.size/\W1.heap.size < (w4.alloc (c_ #[i_ j_ id,i_ j_ RX,s_ xa ops.length xc,i_ j_ 0,i_ j_ 0,i_ j_ 0,i_ j_ 0,i_ j_ 0,t_ ⟨#[]⟩,t_ ⟨#[]⟩,i_ j_ 0,i_ j_ 0] 41)).heap.size):=⟨(iJ.block _ zo).trans (Kj _ _),hown.below jQ,gn,hq1,hb1.size,hlt,by have:=iJ.size; omega⟩
 replace HB:bN (av (w4.alloc (c_ #[i_ j_ id,i_ j_ RX,s_ xa ops.length xc,i_ j_ 0,i_ j_ 0,i_ j_ 0,i_ j_ 0,i_ j_ 0,t_ ⟨#[]⟩,t_ ⟨#[]⟩,i_ j_ 0,i_ j_ 0] 41)) w.heap.size p/\ap (w4.alloc (c_ #[i_ j_ id,i_ j_ RX,s_ xa ops.length xc,i_ j_ 0,i_ j_ 0,i_ j_ 0,i_ j_ 0,i_ j_ 0,t_ ⟨#[]⟩,t_ ⟨#[]⟩,i_ j_ 0,i_ j_ 0] 41)) b0 p/\B_ w.heap.size w (w4.alloc (c_ #[i_ j_ id,i_ j_ RX,s_ xa ops.length xc,i_ j_ 0,i_ j_ 0,i_ j_ 0,i_ j_ 0,i_ j_ 0,t_ ⟨#[]⟩,t_ ⟨#[]⟩,i_ j_ 0,i_ j_ 0] 41))/\(w4.alloc (c_ #[i_ j_ id,i_ j_ RX,s_ xa ops.length xc,i_ j_ 0,i_ j_ 0,i_ j_ 0,i_ j_ 0,i_ j_ 0,t_ ⟨#[]⟩,t_ ⟨#[]⟩,i_ j_ 0,i_ j_ 0] 41)).heap[w.heap.size+1]? =o_ (c_ ar 31)):=⟨HB.I.1.below gh,HB.I.2.1.below gh,HB.I.2.2.1.trans (gh.mono HB.I.2.2.1.size),(gh.block _ hlt).trans HB.I.2.2.2⟩
 have Au:bN (∀ g∈p.Mc,g < w.heap.size):=fun g hg=>pd g hg
 clear hown gn hb1 hb2 hb3 hb4 iJ jQ gh hbW hq1 hlt pd ho4 hg4 hs2 anE;have En:bN (ng bg 41 (w4.alloc (c_ #[i_ j_ id,i_ j_ RX,s_ xa ops.length xc,i_ j_ 0,i_ j_ 0,i_ j_ 0,i_ j_ 0,i_ j_ 0,t_ ⟨#[]⟩,t_ ⟨#[]⟩,i_ j_ 0,i_ j_ 0] 41)) ((w4.alloc (c_ #[i_ j_ id,i_ j_ RX,s_ xa ops.length xc,i_ j_ 0,i_ j_ 0,i_ j_ 0,i_ j_ 0,i_ j_ 0,t_ ⟨#[]⟩,t_ ⟨#[]⟩,i_ j_ 0,i_ j_ 0] 41)).alloc (c_ #[] 41)) [] (o_ ⟨(w4.alloc (c_ #[i_ j_ id,i_ j_ RX,s_ xa ops.length xc,i_ j_ 0,i_ j_ 0,i_ j_ 0,i_ j_ 0,i_ j_ 0,t_ ⟨#[]⟩,t_ ⟨#[]⟩,i_ j_ 0,i_ j_ 0] 41)).heap.size,0,n_⟩) 0):=ng.start;have Hw:(w4.alloc (c_ #[i_ j_ id,i_ j_ RX,s_ xa ops.length xc,i_ j_ 0,i_ j_ 0,i_ j_ 0,i_ j_ 0,i_ j_ 0,t_ ⟨#[]⟩,t_ ⟨#[]⟩,i_ j_ 0,i_ j_ 0] 41)).heap.size=w4.heap.size+1:=by simp
 have HW:bN ((w4.alloc (c_ #[i_ j_ id,i_ j_ RX,s_ xa ops.length xc,i_ j_ 0,i_ j_ 0,i_ j_ 0,i_ j_ 0,i_ j_ 0,t_ ⟨#[]⟩,t_ ⟨#[]⟩,i_ j_ 0,i_ j_ 0] 41)).heap.size=w4.heap.size+1):=Hw;clear Hw;unfold af.cells at *;go_wp2_with (at_builtin; refine br _ rfl _ _ 39 rfl _ _ _ _ rfl rfl hap ?_; clear hap);generalize w4.alloc (c_ #[i_ j_ id,i_ j_ RX,s_ xa ops.length xc,i_ j_ 0,i_ j_ 0,i_ j_ 0,i_ j_ 0,i_ j_ 0,t_ ⟨#[]⟩,t_ ⟨#[]⟩,i_ j_ 0,i_ j_ 0] 41)=W2 at *;generalize W1.heap.size=o at *;generalize w4.heap.size=xb at *
 go_loopw [12,13,14] (fun l d i wr=> ∃ (k:Nat) (dn:Bool) (acc:List ao) (a:Option d_) (c:Nat),k<=q.L8.length/\i=i_ j_ k/\d=b_ dn/\l=s_ a acc.length c/\bN (ng bg 41 W2 wr acc a c/\gY (fun y:ao=>y.id) (⟨newP id RX ops,xa,xc⟩:ao) q.L8 k dn acc)) (fun _ _ i _=>q.L8.length - (Go.RowKit.intOf i).toNat)
 case atStart=>exact ⟨0,false,[],o_ ⟨W2.heap.size,0,n_⟩,0,Ky _,rfl,rfl,by rw [HW.I]; rfl,⟨En.I,gY.start _ _⟩⟩
 case round=>
  obtain ⟨k,dn,acc,a,c,hk,rfl,rfl,rfl,HA⟩:=hrel;have i0:(0:Int)<=(k:Int):=zo
  have hbr:=HA.I.1.cd;have hal:=HA.I.2.le;have ajP:wr.cell? ⟨o,2,n_⟩=o_ (s_ q.aN q.L8.length q.aW):=(HQ.I.1.below hbr).cells.2.2.1;by_cases hlt:k < q.L8.length
  .have i1:(k:Int) < (q.L8.length:Int):=zo
   obtain ⟨y,hy⟩: ∃ y,q.L8[k]? =o_ y:=⟨_,Kz hlt⟩
   have HY:bN (q.L8[k]? =o_ y):=hy;obtain ⟨g,ha,hat⟩:=cn (HQ.I.2.1.below hbr).at.1 hy;rw [ha] at ajP;obtain ⟨d0,d1,d2,d3,d4,d5,d6,d7,d8,d9,tH,tS⟩:=hat;have HG:bN (q.aN=o_ ⟨g,0,n_⟩):=ha;clear ha hy;obtain ⟨a5,c5,w5,hap,rL⟩:=HA.I.1.add 24 128 (P:=J3) underlying24 nb rfl (by decide) (by decide) y y.row rfl rB zo;have F5:bN (ng bg 41 W2 w5 (acc ++ [y]) a5 c5):=rL;clear rL;cases dn;rotate_left
   .go_wp2_with (at_builtin; first | (refine br _ rfl _ _ 24 rfl _ _ _ _ rfl rfl hap ?_; clear hap))
    exact S_
   by_cases hc:id < y.id;rotate_left
   .have HC:bN (¬ id < y.id):=hc
    go_wp2_with (at_builtin; first | (refine br _ rfl _ _ 24 rfl _ _ _ _ rfl rfl hap ?_; clear hap))
    exact ZaF
   clear hap F5 a5 c5 w5;have HC:bN (id < y.id):=hc;obtain ⟨a5,c5,w5,hap,rL⟩:=HA.I.1.add 24 128 (P:=J3) underlying24 nb rfl (by decide) (by decide) (⟨newP id RX ops,xa,xc⟩:ao) #[i_ j_ id,i_ j_ RX,s_ xa ops.length xc,i_ j_ 0,i_ j_ 0,i_ j_ 0,i_ j_ 0,i_ j_ 0,t_ ⟨#[]⟩,t_ ⟨#[]⟩,i_ j_ 0,i_ j_ 0] rfl rB zo;obtain ⟨a7,c7,w7,gT,mI⟩:=rL.add 24 128 (P:=J3) underlying24 nb rfl (by decide) (by decide) y y.row rfl rB Zcr;rw [Lf] at gT;simp only [Lg,K4,Li] at gT;have HL7:bN (ng bg 41 W2 w7 (acc ++ [(⟨newP id RX ops,xa,xc⟩:ao)] ++ [y]) a7 c7):=mI;have mo5:w5.cell? ⟨o,2,n_⟩=o_ (s_ q.aN q.L8.length q.aW):=(HQ.I.1.below rL.cd).cells.2.2.1;obtain ⟨g2,ha2,g8⟩:=cn (HQ.I.2.1.below rL.cd).at.1 HY.I;rw [HG.I] at ha2 mo5;cases ha2;obtain ⟨e0,e1,e2,e3,e4,e5,e6,e7,e8,e9,Pn,e11⟩:=g8;obtain ⟨x0,x1,x2,x3,x4,x5,x6,x7,x8,x9,x10,Dm⟩:=bo (x:=(⟨newP id RX ops,xa,xc⟩:ao)) (X:=xb) (W:=wr) ((hbr.block _ HX.I.2.2).trans HX.I.1);clear rL mI;go_wp2_with (at_builtin; first | (refine br _ rfl _ _ 24 rfl _ _ _ _ rfl rfl hap ?_; clear hap) | (refine br _ rfl _ _ 24 rfl _ _ _ _ rfl rfl gT ?_; clear gT))
   go_round
   case rel=>exact ⟨k+1,true,acc ++ [(⟨newP id RX ops,xa,xc⟩:ao)] ++ [y],a7,c7,zo,by go_num,rfl,by simp,⟨HL7.I,HA.I.2.here HY.I HC.I⟩⟩
   case measure=>simp [Go.RowKit.intOf]; omega
  have i1: ¬ (k:Int) < (q.L8.length:Int):=zo
  cases dn
  .obtain ⟨a9,c9,w9,hap,Jy⟩:=HA.I.1.add 24 128 (P:=J3) underlying24 nb rfl (by decide) (by decide) (⟨newP id RX ops,xa,xc⟩:ao) #[i_ j_ id,i_ j_ RX,s_ xa ops.length xc,i_ j_ 0,i_ j_ 0,i_ j_ 0,i_ j_ 0,i_ j_ 0,t_ ⟨#[]⟩,t_ ⟨#[]⟩,i_ j_ 0,i_ j_ 0] rfl rB zo
   have HR:bN (ng bg 41 W2 w9 (acc ++ [(⟨newP id RX ops,xa,xc⟩:ao)]) a9 c9/\acc ++ [(⟨newP id RX ops,xa,xc⟩:ao)] =bY (fun y:ao=>y.id) (⟨newP id RX ops,xa,xc⟩:ao) q.L8/\(acc ++ [(⟨newP id RX ops,xa,xc⟩:ao)]).length=acc.length+1):=⟨Jy,HA.I.2.last hlt,by simp⟩
   obtain ⟨x0,x1,x2,x3,x4,x5,x6,x7,x8,x9,x10,Dm⟩:=bo (x:=(⟨newP id RX ops,xa,xc⟩:ao)) (X:=xb) (W:=wr) ((hbr.block _ HX.I.2.2).trans HX.I.1);clear Jy;have eX:bN (_):=DQ HB.I HQ.I Au.I HR.I.1 HR.I.2.1 HR.I.2.2 rfl (fun g hg=>by have h5:=(HX.I.2.1.lt hg).1; exact ⟨fun h6=>by have:=HQ.I.2.2.2.1 g h6; omega,zo⟩) (HX.I.2.1.low (by have:=HQ.I.2.2.2.2.1; omega));have Mb:=fi p ({ q with L8:=(acc ++ [(⟨newP id RX ops,xa,xc⟩:ao)]),aN:=a9,aW:=c9 } :af) (w9.setCell ⟨o,2,n_⟩ (s_ a9 (acc.length+1) c9)) ⟨fl.I.1,fl.I.2.1,eX.I.1.2.1.at⟩ (fun hr=>by
    have h5:aE.Small ({ q with L8:=(acc ++ [(⟨newP id RX ops,xa,xc⟩:ao)]),aN:=a9,aW:=c9 } :af).pure:=by rw [eX.I.2.2.2]; exact pO fl.I.2.2.1 hr tc.I.1 fl.I.2.2.2
    exact ⟨dV h5,fun x hx=>(cY h5 hx).1,eX.I.2.2.1.at⟩)
   obtain ⟨m0,m1,m2,m3,m4,m5,m6,m7⟩:=eX.I.1.1.cells;obtain ⟨k0,k1,k2,k3,k4,k5,k6,k7⟩:=eX.I.2.1.cells;obtain ⟨⟨u,co⟩,fo⟩:(∃ u,w9.cell? ⟨o,2,n_⟩=o_ u)/\w9.frozen? ⟨o,2,n_⟩=false:=⟨⟨_,(HQ.I.1.below HR.I.1.cd).cells.2.2.1⟩,Ko _ _ _ _ _ (HQ.I.1.below HR.I.1.cd)⟩
   unfold af.cells at Mb;have sR:=HR.I.2.2;simp only [sR] at Mb k0 k1 k2 k3 k4 k5 k6 k7;clear sR;go_wp2_with (at_builtin; first | (refine br _ rfl _ _ 24 rfl _ _ _ _ rfl rfl hap ?_; clear hap));refine Mb.mono ?_;clear Mb m0 m1 m2 m3 m4 m5 m6 m7 k0 k1 k2 k3 k4 k5 k6 k7;rintro e ow ⟨gy,hok⟩;have hq:=HQ.I.2.2.2.2;have HZ:bN (B_ w.heap.size w ow/\ow.heap[w.heap.size+1]? =o_ (c_ ar 31)/\ap ow W.heap.size ({ q with L8:=(acc ++ [(⟨newP id RX ops,xa,xc⟩:ao)]),aN:=a9,aW:=c9 } :af)/\w.heap.size+1 < W.heap.size):=⟨eX.I.1.2.2.1.trans (gy.mono eX.I.1.2.2.1.size),(gy.block _ (J2.1 eX.I.1.2.2.2).1).trans eX.I.1.2.2.2,eX.I.2.2.1.below gy,hq.2.1⟩
   clear gy hq;rw [eX.I.2.2.2] at hok;rcases hok with ⟨hok,rfl⟩ | ⟨hok,rfl⟩
   .have HN:bN (cB p.pure { p.pure with L8:=bY (·.id) (newP id RX ops) p.pure.L8 } =o_ { p.pure with L8:=bY (·.id) (newP id RX ops) p.pure.L8 }):=jS hok
    clear hok;go_wp2_with (refine ec _ _ #[i_ j_ q.id,i_ j_ q.next,s_ a9 (acc.length+1) c9,s_ q.bc q.aj.length q.bF,s_ q.ay q.L9.length q.aO,s_ q.ax q.ag.length q.aP,s_ q.am q.ae.length q.aG,s_ q.aK q.ai.length q.aV] HZ.I.2.1 ?_);refine mG results78 (b_ true) HZ.I.2.1 ?_;have hl:=HZ.I.2.2.2;rw [HN.I];refine ⟨({ q with L8:=(acc ++ [(⟨newP id RX ops,xa,xc⟩:ao)]),aN:=a9,aW:=c9 } :af),by unfold af.cells; simp only [HR.I.2.2]; rfl,(HZ.I.2.2.1.lower zo).same fun g hg=>KH _ _ _ _ ZcA,eX.I.2.2.2,q_ HZ.I.1 zo _⟩
   .exact Zcc
  .have HR:bN (ng bg 41 W2 wr acc a c/\acc=bY (fun y:ao=>y.id) (⟨newP id RX ops,xa,xc⟩:ao) q.L8/\acc.length=acc.length):=⟨HA.I.1,HA.I.2.done hlt,rfl⟩
   have eX:bN (_):=DQ HB.I HQ.I Au.I HR.I.1 HR.I.2.1 HR.I.2.2 rfl (fun g hg=>by have h5:=(HX.I.2.1.lt hg).1; exact ⟨fun h6=>by have:=HQ.I.2.2.2.1 g h6; omega,zo⟩) (HX.I.2.1.low (by have:=HQ.I.2.2.2.2.1; omega));have Mb:=fi p ({ q with L8:=acc,aN:=a,aW:=c } :af) (wr.setCell ⟨o,2,n_⟩ (s_ a acc.length c)) ⟨fl.I.1,fl.I.2.1,eX.I.1.2.1.at⟩ (fun hr=>by
    have h5:aE.Small ({ q with L8:=acc,aN:=a,aW:=c } :af).pure:=by rw [eX.I.2.2.2]; exact pO fl.I.2.2.1 hr tc.I.1 fl.I.2.2.2
    exact ⟨dV h5,fun x hx=>(cY h5 hx).1,eX.I.2.2.1.at⟩)
   obtain ⟨m0,m1,m2,m3,m4,m5,m6,m7⟩:=eX.I.1.1.cells;obtain ⟨k0,k1,k2,k3,k4,k5,k6,k7⟩:=eX.I.2.1.cells;obtain ⟨⟨u,co⟩,fo⟩:(∃ u,wr.cell? ⟨o,2,n_⟩=o_ u)/\wr.frozen? ⟨o,2,n_⟩=false:=⟨⟨_,(HQ.I.1.below HR.I.1.cd).cells.2.2.1⟩,Ko _ _ _ _ _ (HQ.I.1.below HR.I.1.cd)⟩
   unfold af.cells at Mb;simp only at Mb k0 k1 k2 k3 k4 k5 k6 k7;go_wp2_with fail;refine Mb.mono ?_;clear Mb m0 m1 m2 m3 m4 m5 m6 m7 k0 k1 k2 k3 k4 k5 k6 k7;rintro e ow ⟨gy,hok⟩;have hq:=HQ.I.2.2.2.2;have HZ:bN (B_ w.heap.size w ow/\ow.heap[w.heap.size+1]? =o_ (c_ ar 31)/\ap ow W.heap.size ({ q with L8:=acc,aN:=a,aW:=c } :af)/\w.heap.size+1 < W.heap.size):=⟨eX.I.1.2.2.1.trans (gy.mono eX.I.1.2.2.1.size),(gy.block _ (J2.1 eX.I.1.2.2.2).1).trans eX.I.1.2.2.2,eX.I.2.2.1.below gy,hq.2.1⟩
   clear gy hq;rw [eX.I.2.2.2] at hok;rcases hok with ⟨hok,rfl⟩ | ⟨hok,rfl⟩
   .have HN:bN (cB p.pure { p.pure with L8:=bY (·.id) (newP id RX ops) p.pure.L8 } =o_ { p.pure with L8:=bY (·.id) (newP id RX ops) p.pure.L8 }):=jS hok
    clear hok;go_wp2_with (refine ec _ _ #[i_ j_ q.id,i_ j_ q.next,s_ a acc.length c,s_ q.bc q.aj.length q.bF,s_ q.ay q.L9.length q.aO,s_ q.ax q.ag.length q.aP,s_ q.am q.ae.length q.aG,s_ q.aK q.ai.length q.aV] HZ.I.2.1 ?_);refine mG results78 (b_ true) HZ.I.2.1 ?_;have hl:=HZ.I.2.2.2;rw [HN.I];refine ⟨({ q with L8:=acc,aN:=a,aW:=c } :af),by rfl,(HZ.I.2.2.1.lower zo).same fun g hg=>KH _ _ _ _ ZcA,eX.I.2.2.2,q_ HZ.I.1 zo _⟩
   .exact Zcc
end
section
theorem vS {p:aE} {x:aB} (h:p.Small) (hr:bK p=true) (hx:(Lit.int j_ x.id).wf=true):aE.Small { p with L9:=cA (·.id) x p.L9 } :=by
 have h2:=((ch _).1 hr).cD;exact ⟨h.dl,h.fx,by show (cA (·.id) x p.L9).length<=_; rw [eJ]; omega,h.cC,h.cb,h.dH,h.L8,h.aj,fun y hy=>(js.1 hy).elim (fun e=>e ▸ hx) (h.L9 y),h.ag,h.ae,h.ai⟩
end
section
open Go.Maps
attribute [local go_sem ↓] Kc Kd
theorem xN {p q:af} {w W W2 w9:w_} {o b0 n9 c9:Nat} {x:au} {xp:ci} {t8:Array v_} {acc:List au} {a9:Option d_} (hB:av W2 w.heap.size p/\ap W2 b0 p/\B_ w.heap.size w W2/\W2.heap[w.heap.size+1]? =o_ (c_ ar 31))
  (hQ:av W2 o q/\ap W2 W.heap.size q/\q.pure=p.pure/\(∀ g∈q.Mc,g < o)/\W.heap.size<=o/\w.heap.size+1 < W.heap.size/\o < W2.heap.size) (hpb: ∀ g∈p.Mc,g < w.heap.size) (hl:fy bm 96 t8 W2 w9 acc a9 c9) (ha:acc=bY (fun y:au=>y.id) x q.ae) (hn:acc.length=n9) (hx:x.toci=xp)
  (hk: ∀ g,aC.bt x=o_ g->g∉q.Mc/\g≠o) (hm:aC.cO W2 W.heap.size x):
  (av (w9.setCell ⟨o,6,n_⟩ (s_ a9 n9 c9)) w.heap.size p/\ap (w9.setCell ⟨o,6,n_⟩ (s_ a9 n9 c9)) b0 p/\B_ w.heap.size w (w9.setCell ⟨o,6,n_⟩ (s_ a9 n9 c9))/\(w9.setCell ⟨o,6,n_⟩ (s_ a9 n9 c9)).heap[w.heap.size+1]? =o_ (c_ ar 31))/\av (w9.setCell ⟨o,6,n_⟩ (s_ a9 n9 c9)) o ({ q with ae:=acc,am:=a9,aG:=c9 } :af)/\ap (w9.setCell ⟨o,6,n_⟩ (s_ a9 n9 c9)) W.heap.size ({ q with ae:=acc,am:=a9,aG:=c9 } :af)/\({ q with ae:=acc,am:=a9,aG:=c9 } :af).pure= { p.pure with ae:=bY (·.id) xp p.pure.ae } :=by
 have hb:=hl.cd;have nW:=hQ.2.2.2.1;have sm: ∀ g,g < W2.heap.size->g≠o->(w9.setCell ⟨o,6,n_⟩ (s_ a9 n9 c9)).heap[g]? =W2.heap[g]? :=fun g hg hne=>(aH hne).trans (hb.block _ hg)
 have lY:B_ w.heap.size w (w9.setCell ⟨o,6,n_⟩ (s_ a9 n9 c9)):=bP (hB.2.2.1.trans (hb.mono zo)) zo;have iH: ∀ g∈acc.filterMap aC.bt,g∈q.ae.filterMap aC.bt\/aC.bt x=o_ g:=fun g hg=>by
  exact Zaf
 have hin: ∀ g∈q.ae.filterMap aC.bt,g∈q.Mc:=fun g hg=>by simp only [af.Mc,Kg]; simp [hg]
 refine ⟨⟨(sm _ zo zo).trans hB.1,hB.2.1.same fun g hg=>sm g ZcB ZcB,lY,(sm _ zo zo).trans hB.2.2.2⟩,?_,?_,?_⟩
 .have h5:=cx (i:=6) (v:=s_ a9 n9 c9) ((hb.block _ hQ.2.2.2.2.2.2).trans hQ.1)
  unfold av;simp only [hn];exact h5
 .refine hQ.2.1.Eu (B:=W2.heap.size) zo (fun g hg=>by have:=nW g hg; omega) (fun g hg=>sm g ZcE ZcE) ?_ (fun z hz=> ?_) ?_ (fun g hg=> ?_) (fun g hg=> ?_)
  .exact Zbn
  .rw [ha] at hz
   rcases fq.1 hz with rfl | hz
   .exact ZbC
   .refine (hQ.2.1.eE z hz).same fun g hg=> ?_
    exact Za0
  .have h5:=hQ.2.1.nodup
   simp only [af.Mc,Kf] at h5;have h6:(q.ae.filterMap aC.bt).Nodup:=h5.2.1.2.1.2.1.2.1.2.1.2.1.1;have hp:(acc.filterMap aC.bt).Perm ((x :: q.ae).filterMap aC.bt):=by rw [ha]; exact (pz x _).filterMap _
   refine hp.nodup_iff.2 ?_;cases he:aC.bt x with
   | none=>rw [List.filterMap_cons_none he]; exact h6
   | some g=>rw [List.filterMap_cons_some he]; exact Lp.2 ⟨fun h7=>(hk g he).1 (hin g h7),h6⟩
  .exact Zbc
  .exact ZaT
 .show ({ q.pure with ae:=acc.map (·.toci) } :aE)=_
  have e1:q.ae.map (·.toci)=p.pure.ae:=congrArg aE.ae hQ.2.2.1;rw [ha,rF (je:=(·.id)) (fun y:au=>y.toci) (fun _=>rfl),e1,hx,hQ.2.2.1]
theorem qh (p:af) (id Me:Int) (w:w_) (b0:Nat) (hwf:(Lit.int j_ id).wf=true) (qY:p.pure.Small) (h:ap w b0 p):
  k_ J3 76 #[a_ p.cells,i_ j_ id,i_ j_ Me] w fun e w'=>gI w (cB p.pure { p.pure with ae:=bY (·.id) (⟨id,Me,[]⟩:ci) p.pure.ae }) e w':=by
 have HB:bN (av ((w.alloc (c_ p.row 31)).alloc (c_ ar 31)) w.heap.size p/\ap ((w.alloc (c_ p.row 31)).alloc (c_ ar 31)) b0 p/\B_ w.heap.size w ((w.alloc (c_ p.row 31)).alloc (c_ ar 31))/\((w.alloc (c_ p.row 31)).alloc (c_ ar 31)).heap[w.heap.size+1]? =o_ (c_ ar 31)):=by
  exact J_
 have fl:bN (p.Fit/\(∀ x∈p.L8,x.dX)/\p.pure.Small/\(Lit.int j_ id).wf=true):=⟨dV qY,fun x hx=>(cY qY hx).1,qY,hwf⟩
 have hpl:p.ae.length<=1048576:=fl.I.1.short.ae;have pd: ∀ g∈p.Mc,g < w.heap.size:=fun g hg=>(h.lt g hg).2
 clear h qY hwf;obtain ⟨m0,m1,m2,m3,m4,m5,m6,m7⟩:=HB.I.1.cells;unfold af.cells
 go_enter func76,ntmps76
 go_wp2_with fail;generalize (w.alloc (c_ p.row 31)).alloc (c_ ar 31)=W at *;clear m0 m1 m2 m3 m4 m5 m6 m7;refine (fR p W fl.I.1 fl.I.2.1 HB.I.2.1.at).mono ?_;rintro e W1 ⟨q,rfl,hown,gn,hb1⟩;have hb2:B_ W1.heap.size W1 (W1.alloc (c_ q.row 31)):=(Kp _ _).alloc (Ki _) _;have hlt:w.heap.size+1 < W.heap.size:=(J2.1 HB.I.2.2.2).1;have hb3:B_ W.heap.size W (W1.alloc (c_ q.row 31)):=hb1.trans (hb2.mono hb1.size);have hq1: ∀ g∈q.Mc,g < W1.heap.size:=fun g hg=>(hown.lt g hg).2
 have hql:q.ae.length<=1048576:=by have e1:=congrArg (fun z=>z.ae.length) gn; simp only [af.pure,KG] at e1; omega
 have HQ:bN (av (W1.alloc (c_ q.row 31)) W1.heap.size q/\ap (W1.alloc (c_ q.row 31)) W.heap.size q/\q.pure=p.pure/\(∀ g∈q.Mc,g < W1.heap.size)/\W.heap.size<=W1.heap.size/\w.heap.size+1 < W.heap.size/\W1.heap.size < (W1.alloc (c_ q.row 31)).heap.size):=⟨Kj _ _,hown.below hb2,gn,hq1,hb1.size,hlt,by simp⟩
 replace HB:bN (av (W1.alloc (c_ q.row 31)) w.heap.size p/\ap (W1.alloc (c_ q.row 31)) b0 p/\B_ w.heap.size w (W1.alloc (c_ q.row 31))/\(W1.alloc (c_ q.row 31)).heap[w.heap.size+1]? =o_ (c_ ar 31)):=⟨HB.I.1.below hb3,HB.I.2.1.below hb3,HB.I.2.2.1.trans (hb3.mono HB.I.2.2.1.size),(hb3.block _ hlt).trans HB.I.2.2.2⟩
 have Au:bN (∀ g∈p.Mc,g < w.heap.size):=fun g hg=>pd g hg
 clear hown gn hb1 hb2 hb3 hq1 hlt pd;have En:bN (fy bm 96 #[i_ j_ id,i_ j_ Me,s_ n_ 0 0] (W1.alloc (c_ q.row 31)) (((W1.alloc (c_ q.row 31)).alloc (c_ #[] 96)).alloc (c_ #[i_ j_ id,i_ j_ Me,s_ n_ 0 0] 96)) [] (o_ ⟨(W1.alloc (c_ q.row 31)).heap.size,0,n_⟩) 0):=fy.start;have Hw:(W1.alloc (c_ q.row 31)).heap.size=W1.heap.size+1:=by simp
 have HW:bN ((W1.alloc (c_ q.row 31)).heap.size=W1.heap.size+1):=Hw;clear Hw;unfold af.cells;go_wp2_with fail;generalize W1.alloc (c_ q.row 31)=W2 at *;generalize W1.heap.size=o at *
 go_loopw [9,11,12] (fun l d i wr=> ∃ (k:Nat) (dn:Bool) (acc:List au) (a:Option d_) (c:Nat),k<=q.ae.length/\i=i_ j_ k/\d=b_ dn/\l=s_ a acc.length c/\bN (fy bm 96 #[i_ j_ id,i_ j_ Me,s_ n_ 0 0] W2 wr acc a c/\gY (fun y:au=>y.id) (⟨⟨id,Me,[]⟩,n_,0⟩:au) q.ae k dn acc)) (fun _ _ i _=>q.ae.length - (Go.RowKit.intOf i).toNat)
 case atStart=>exact ⟨0,false,[],o_ ⟨W2.heap.size,0,n_⟩,0,Ky _,rfl,rfl,by rw [HW.I]; rfl,⟨En.I,gY.start _ _⟩⟩
 case round=>
  obtain ⟨k,dn,acc,a,c,hk,rfl,rfl,rfl,HA⟩:=hrel;have i0:(0:Int)<=(k:Int):=zo
  have hbr:=HA.I.1.cd;have hal:=HA.I.2.le;have ajP:wr.cell? ⟨o,6,n_⟩=o_ (s_ q.am q.ae.length q.aG):=(HQ.I.1.below hbr).cells.2.2.2.2.2.2.1;by_cases hlt:k < q.ae.length
  .have i1:(k:Int) < (q.ae.length:Int):=zo
   obtain ⟨y,hy⟩: ∃ y,q.ae[k]? =o_ y:=⟨_,Kz hlt⟩
   have HY:bN (q.ae[k]? =o_ y):=hy;obtain ⟨g,ha,hat⟩:=iA (HQ.I.2.1.below hbr).at.2.2.2.2.1 hy;rw [ha] at ajP;obtain ⟨d0,d1,d2⟩:=hat;have HG:bN (q.am=o_ ⟨g,0,n_⟩):=ha;clear ha hy;obtain ⟨a5,c5,w5,hap,rL⟩:=HA.I.1.add 28 40 (P:=J3) underlying28 kh rfl (by decide) (by decide) y #[i_ j_ y.id,i_ j_ y.max,s_ y.ak y.Ma.length y.aq] rfl nz zo;have F5:bN (fy bm 96 #[i_ j_ id,i_ j_ Me,s_ n_ 0 0] W2 w5 (acc ++ [y]) a5 c5):=rL;clear rL;cases dn;rotate_left
   .go_wp2_with (at_builtin; first | (refine br _ rfl _ _ 28 rfl _ _ _ _ rfl rfl hap ?_; clear hap))
    exact S_
   by_cases hc:id < y.id;rotate_left
   .have HC:bN (¬ id < y.id):=hc
    go_wp2_with (at_builtin; first | (refine br _ rfl _ _ 28 rfl _ _ _ _ rfl rfl hap ?_; clear hap))
    exact ZaF
   clear hap F5 a5 c5 w5;have HC:bN (id < y.id):=hc;obtain ⟨a5,c5,w5,hap,rL⟩:=HA.I.1.add 28 40 (P:=J3) underlying28 kh rfl (by decide) (by decide) (⟨⟨id,Me,[]⟩,n_,0⟩:au) #[i_ j_ id,i_ j_ Me,s_ n_ 0 0] rfl nz zo;obtain ⟨a7,c7,w7,gT,mI⟩:=rL.add 28 40 (P:=J3) underlying28 kh rfl (by decide) (by decide) y #[i_ j_ y.id,i_ j_ y.max,s_ y.ak y.Ma.length y.aq] rfl nz Zcr;rw [Lf] at gT;simp only [Lg,K4,Li] at gT;have HL7:bN (fy bm 96 #[i_ j_ id,i_ j_ Me,s_ n_ 0 0] W2 w7 (acc ++ [(⟨⟨id,Me,[]⟩,n_,0⟩:au)] ++ [y]) a7 c7):=mI;have mo5:w5.cell? ⟨o,6,n_⟩=o_ (s_ q.am q.ae.length q.aG):=(HQ.I.1.below rL.cd).cells.2.2.2.2.2.2.1;obtain ⟨g2,ha2,g8⟩:=iA (HQ.I.2.1.below rL.cd).at.2.2.2.2.1 HY.I;rw [HG.I] at ha2 mo5;cases ha2;obtain ⟨e0,e1,e2⟩:=g8;obtain ⟨x0,x1,x2⟩:=ia (x:=(⟨⟨id,Me,[]⟩,n_,0⟩:au)) (X:=o+1+1) (W:=wr) ZcX;clear rL mI;simp only [K4] at *;go_wp2_with (at_builtin; first | (refine br _ rfl _ _ 28 rfl _ _ _ _ rfl rfl hap ?_; clear hap) | (refine br _ rfl _ _ 28 rfl _ _ _ _ rfl rfl gT ?_; clear gT))
   go_round
   case rel=>exact ⟨k+1,true,acc ++ [(⟨⟨id,Me,[]⟩,n_,0⟩:au)] ++ [y],a7,c7,zo,by go_num,rfl,by simp,⟨HL7.I,HA.I.2.here HY.I HC.I⟩⟩
   case measure=>simp [Go.RowKit.intOf]; omega
  have i1: ¬ (k:Int) < (q.ae.length:Int):=zo
  cases dn
  .obtain ⟨a9,c9,w9,hap,Jy⟩:=HA.I.1.add 28 40 (P:=J3) underlying28 kh rfl (by decide) (by decide) (⟨⟨id,Me,[]⟩,n_,0⟩:au) #[i_ j_ id,i_ j_ Me,s_ n_ 0 0] rfl nz zo
   have HR:bN (fy bm 96 #[i_ j_ id,i_ j_ Me,s_ n_ 0 0] W2 w9 (acc ++ [(⟨⟨id,Me,[]⟩,n_,0⟩:au)]) a9 c9/\acc ++ [(⟨⟨id,Me,[]⟩,n_,0⟩:au)] =bY (fun y:au=>y.id) (⟨⟨id,Me,[]⟩,n_,0⟩:au) q.ae/\(acc ++ [(⟨⟨id,Me,[]⟩,n_,0⟩:au)]).length=acc.length+1):=⟨Jy,HA.I.2.last hlt,by simp⟩
   obtain ⟨x0,x1,x2⟩:=ia (x:=(⟨⟨id,Me,[]⟩,n_,0⟩:au)) (X:=o+1+1) (W:=wr) ZcX;simp only [K4] at x0 x1 x2;clear Jy;have eX:bN (_):=xN HB.I HQ.I Au.I HR.I.1 HR.I.2.1 HR.I.2.2 rfl (fun g hg=>by cases hg) (Ke _ _ _ _);have Mb:=fi p ({ q with ae:=(acc ++ [(⟨⟨id,Me,[]⟩,n_,0⟩:au)]),am:=a9,aG:=c9 } :af) (w9.setCell ⟨o,6,n_⟩ (s_ a9 (acc.length+1) c9)) ⟨fl.I.1,fl.I.2.1,eX.I.1.2.1.at⟩ (fun hr=>by
    have h5:aE.Small ({ q with ae:=(acc ++ [(⟨⟨id,Me,[]⟩,n_,0⟩:au)]),am:=a9,aG:=c9 } :af).pure:=by rw [eX.I.2.2.2]; exact nX fl.I.2.2.1 hr ⟨fl.I.2.2.2,Ky _,(fun s hs=>by cases hs)⟩
    exact ⟨dV h5,fun x hx=>(cY h5 hx).1,eX.I.2.2.1.at⟩)
   obtain ⟨m0,m1,m2,m3,m4,m5,m6,m7⟩:=eX.I.1.1.cells;obtain ⟨k0,k1,k2,k3,k4,k5,k6,k7⟩:=eX.I.2.1.cells;obtain ⟨⟨u,co⟩,fo⟩:(∃ u,w9.cell? ⟨o,6,n_⟩=o_ u)/\w9.frozen? ⟨o,6,n_⟩=false:=⟨⟨_,(HQ.I.1.below HR.I.1.cd).cells.2.2.2.2.2.2.1⟩,Ko _ _ _ _ _ (HQ.I.1.below HR.I.1.cd)⟩
   unfold af.cells at Mb;have sR:=HR.I.2.2;simp only [sR] at Mb k0 k1 k2 k3 k4 k5 k6 k7;clear sR;go_wp2_with (at_builtin; first | (refine br _ rfl _ _ 28 rfl _ _ _ _ rfl rfl hap ?_; clear hap));refine Mb.mono ?_;clear Mb m0 m1 m2 m3 m4 m5 m6 m7 k0 k1 k2 k3 k4 k5 k6 k7;rintro e ow ⟨gy,hok⟩;have hq:=HQ.I.2.2.2.2;have HZ:bN (B_ w.heap.size w ow/\ow.heap[w.heap.size+1]? =o_ (c_ ar 31)/\ap ow W.heap.size ({ q with ae:=(acc ++ [(⟨⟨id,Me,[]⟩,n_,0⟩:au)]),am:=a9,aG:=c9 } :af)/\w.heap.size+1 < W.heap.size):=⟨eX.I.1.2.2.1.trans (gy.mono eX.I.1.2.2.1.size),(gy.block _ (J2.1 eX.I.1.2.2.2).1).trans eX.I.1.2.2.2,eX.I.2.2.1.below gy,hq.2.1⟩
   clear gy hq;rw [eX.I.2.2.2] at hok;rcases hok with ⟨hok,rfl⟩ | ⟨hok,rfl⟩
   .have HN:bN (cB p.pure { p.pure with ae:=bY (·.id) (⟨id,Me,[]⟩:ci) p.pure.ae } =o_ { p.pure with ae:=bY (·.id) (⟨id,Me,[]⟩:ci) p.pure.ae }):=jS hok
    clear hok;go_wp2_with (refine ec _ _ #[i_ j_ q.id,i_ j_ q.next,s_ q.aN q.L8.length q.aW,s_ q.bc q.aj.length q.bF,s_ q.ay q.L9.length q.aO,s_ q.ax q.ag.length q.aP,s_ a9 (acc.length+1) c9,s_ q.aK q.ai.length q.aV] HZ.I.2.1 ?_);refine mG results76 (b_ true) HZ.I.2.1 ?_;have hl:=HZ.I.2.2.2;rw [HN.I];refine ⟨({ q with ae:=(acc ++ [(⟨⟨id,Me,[]⟩,n_,0⟩:au)]),am:=a9,aG:=c9 } :af),by unfold af.cells; simp only [HR.I.2.2]; rfl,(HZ.I.2.2.1.lower zo).same fun g hg=>KH _ _ _ _ ZcA,eX.I.2.2.2,q_ HZ.I.1 zo _⟩
   .exact Zcb
  .have HR:bN (fy bm 96 #[i_ j_ id,i_ j_ Me,s_ n_ 0 0] W2 wr acc a c/\acc=bY (fun y:au=>y.id) (⟨⟨id,Me,[]⟩,n_,0⟩:au) q.ae/\acc.length=acc.length):=⟨HA.I.1,HA.I.2.done hlt,rfl⟩
   have eX:bN (_):=xN HB.I HQ.I Au.I HR.I.1 HR.I.2.1 HR.I.2.2 rfl (fun g hg=>by cases hg) (Ke _ _ _ _);have Mb:=fi p ({ q with ae:=acc,am:=a,aG:=c } :af) (wr.setCell ⟨o,6,n_⟩ (s_ a acc.length c)) ⟨fl.I.1,fl.I.2.1,eX.I.1.2.1.at⟩ (fun hr=>by
    have h5:aE.Small ({ q with ae:=acc,am:=a,aG:=c } :af).pure:=by rw [eX.I.2.2.2]; exact nX fl.I.2.2.1 hr ⟨fl.I.2.2.2,Ky _,(fun s hs=>by cases hs)⟩
    exact ⟨dV h5,fun x hx=>(cY h5 hx).1,eX.I.2.2.1.at⟩)
   obtain ⟨m0,m1,m2,m3,m4,m5,m6,m7⟩:=eX.I.1.1.cells;obtain ⟨k0,k1,k2,k3,k4,k5,k6,k7⟩:=eX.I.2.1.cells;obtain ⟨⟨u,co⟩,fo⟩:(∃ u,wr.cell? ⟨o,6,n_⟩=o_ u)/\wr.frozen? ⟨o,6,n_⟩=false:=⟨⟨_,(HQ.I.1.below HR.I.1.cd).cells.2.2.2.2.2.2.1⟩,Ko _ _ _ _ _ (HQ.I.1.below HR.I.1.cd)⟩
   unfold af.cells at Mb;simp only at Mb k0 k1 k2 k3 k4 k5 k6 k7;go_wp2_with fail;refine Mb.mono ?_;clear Mb m0 m1 m2 m3 m4 m5 m6 m7 k0 k1 k2 k3 k4 k5 k6 k7;rintro e ow ⟨gy,hok⟩;have hq:=HQ.I.2.2.2.2;have HZ:bN (B_ w.heap.size w ow/\ow.heap[w.heap.size+1]? =o_ (c_ ar 31)/\ap ow W.heap.size ({ q with ae:=acc,am:=a,aG:=c } :af)/\w.heap.size+1 < W.heap.size):=⟨eX.I.1.2.2.1.trans (gy.mono eX.I.1.2.2.1.size),(gy.block _ (J2.1 eX.I.1.2.2.2).1).trans eX.I.1.2.2.2,eX.I.2.2.1.below gy,hq.2.1⟩
   clear gy hq;rw [eX.I.2.2.2] at hok;rcases hok with ⟨hok,rfl⟩ | ⟨hok,rfl⟩
   .have HN:bN (cB p.pure { p.pure with ae:=bY (·.id) (⟨id,Me,[]⟩:ci) p.pure.ae } =o_ { p.pure with ae:=bY (·.id) (⟨id,Me,[]⟩:ci) p.pure.ae }):=jS hok
    clear hok;go_wp2_with (refine ec _ _ #[i_ j_ q.id,i_ j_ q.next,s_ q.aN q.L8.length q.aW,s_ q.bc q.aj.length q.bF,s_ q.ay q.L9.length q.aO,s_ q.ax q.ag.length q.aP,s_ a acc.length c,s_ q.aK q.ai.length q.aV] HZ.I.2.1 ?_);refine mG results76 (b_ true) HZ.I.2.1 ?_;have hl:=HZ.I.2.2.2;rw [HN.I];refine ⟨({ q with ae:=acc,am:=a,aG:=c } :af),by rfl,(HZ.I.2.2.1.lower zo).same fun g hg=>KH _ _ _ _ ZcA,eX.I.2.2.2,q_ HZ.I.1 zo _⟩
   .exact Zcb
end
end Go.Proofs.YtfncpmaefninjaaGreatDoor
