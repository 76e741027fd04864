/- What the proof leans on, part 17. -/
import Derived.Test.YtfncpmaefninjaaGreatDoorOwnT13
import Derived.Test.YtfncpmaefninjaaGreatDoorOwnT15
set_option linter.all false
set_option maxRecDepth 100000
set_option maxHeartbeats 8000000
open Go.Proofs.Tryz
open Go renaming World->w_,Value->v_,Calls->k_,Addr->d_,TypeId->T_,below_setRow->q_
open Go.Ending renaming returned->r_
open Go.IntKind renaming i64->j_
open Go.Obj renaming cells->c_
open Go.RowKit renaming Below->B_,Hid->bE
open Go.Value renaming int->i_,slice->s_,bool->b_,agg->a_,pointer->p_
open Option renaming some->o_,none->n_
open Go.Proofs.Tryz renaming prog->J3

open Go.RowKit
namespace Go.Proofs.YtfncpmaefninjaaGreatDoor
section
open Go.Maps
attribute [local go_sem ↓] Go.wp_at_zero Go.wp_at_succ
structure WkI (bA:Int) (bj:Nat) (w:w_) (afH:aZ) (o k:Nat) (S:aZ) (wr:w_):Prop where
 at':cJ wr bj o S
 fits:S.Fits
 wk:af9 bA S.pure
 same:gj bA S.pure=gj bA afH.pure
 cnt:(lF bA S.pure.L8).length=k
 short: ∀ p∈S.lp,p.1.prog.length<=1048576
 cd:B_ bj w wr
def WdEnds (o bj:Nat) (S:aZ) (bA:Int) (w:w_) (e:Ending) (w':w_):Prop:= ∃ S2:aZ,e=r_ (b_ (cv bA 0 1000000000 && decide (S.q.next<=999999980)))/\cJ w' bj o S2/\S2.Fits/\((cv bA 0 1000000000 && decide (S.q.next<=999999980))=true->S2.pure=gj bA S.pure)/\B_ bj w w'
def cJ.below {w w':w_} {bj o:Nat} {S:aZ} (h:cJ w bj o S) (hb:B_ w.heap.size w w'):cJ w' bj o S:=
 ⟨(hb.block _ (J2.1 h.opn).1).trans h.opn,h.L8.below hb,h.aj.below hb,h.L9.below hb,h.ag.below hb,h.ae.below hb,h.ai.below hb,fun p hp=>Di (h.eI p hp) hb,fun p hp=>Di (h.eE p hp) hb,fun p hp=>Di (h.eR p hp) hb,h.nodup,h.low⟩
def St {S:aZ} (h:aQ S.pure) {p:ao × Nat} (hp:p∈S.lp):p.1.prog.length<=1048576:=by
 have h1:=(cK h.L8 p.1.toaD (Lr.2 ⟨p,hp,rfl⟩)).2;simp only [cH,J7] at h1;have h2:=h1.1.1.1.1.1.1.2;unfold jm nq at h2;simp only [decide_eq_true_eq] at h2;omega
def Sg (o bj:Nat) (S:aZ) (bA:Int) (w:w_) (h:cJ w bj o S) (lY:bj<=w.heap.size) (hf:S.Fits) (hr:aQ S.pure):
  k_ J3 32 #[p_ (o_ ⟨o,0,n_⟩),i_ j_ bA] w fun e w'=>WdEnds o bj S bA w e w':=by
 have c1:w.cell? ⟨o,1,n_⟩=o_ (i_ j_ S.q.next):=h.opn.cell 1;have H:bE (cJ w bj o S/\S.Fits/\aQ S.pure/\bj<=w.heap.size):=⟨h,hf,hr,lY⟩
 clear h hf hr lY
 go_enter func32,ntmps32
 by_cases h1:bA < 0
 .skip
  exact V_
 by_cases h2:1000000000 < bA
 .skip
  exact V_
 by_cases h3:999999980 < S.q.next
 .skip
  have HV:bE ((cv bA 0 1000000000 && decide (S.q.next<=999999980))=false):=by show _=_; rw [decide_eq_false zo,PP]
  go_wp2;go_ret;exact ⟨S,al HV.I.symm,H.I.1,H.I.2.1,(fun e=>by rw [HV.I] at e; cases e),Kp _ _⟩
 have HV:bE ((cv bA 0 1000000000 && decide (S.q.next<=999999980))=true):=by show _=_; rw [bz.2 ⟨zo,zo⟩,decide_eq_true zo]; rfl
 have HK:bE (WkI bA bj w S o (lF bA S.pure.L8).length S w):=⟨H.I.1,H.I.2.1,af9.of H.I.2.2.1 (by show S.q.next<=_; omega),rfl,rfl,fun p hp=>St H.I.2.2.1 hp,Kp _ _⟩
 go_wp2_with fail;clear c1 h1 h2 h3
 go_loopg [] (lF bA S.pure.L8).length (fun k wr=> ∃ S1:aZ,bE (WkI bA bj w S o k S1 wr))
 case atStart=>exact ⟨S,HK.I⟩
 case round=>
  obtain ⟨S1,HO⟩:=hrel;have hlq:S1.lp.length<=6:=by have h5:=HO.I.wk.low; simpa [aZ.pure] using h5
  have HL:bE (S1.lp.length<=1048576/\(Qx bA S1.lp).length<=1048576):=⟨zo,LG (Qq _ _) zo⟩
  clear hlq;go_wp2_with fail;refine (Sz o S1.q S1.lp bA bj wr HO.I.at'.opn HO.I.at'.L8 HL.I.1 HO.I.fits.Jl).mono ?_;rintro e w2 ⟨⟨a,cap,rfl,hrw⟩,hb2⟩;have HB:bE (Row w2 a ((Qx bA S1.lp).map fun p=>dt p.2)/\B_ wr.heap.size wr w2):=⟨hrw,hb2⟩
  clear hrw hb2;go_wp2_with fail;refine (Sd a (Qx bA S1.lp) cap w2 HL.I.2 HB.I.1 (fun p hp=>(HO.I.at'.L8.below HB.I.2).box p (L2.1 hp).1)).mono ?_;rintro e w3 ⟨rfl,hb3⟩;have H3:bE (B_ wr.heap.size wr w3):=HB.I.2.trans (hb3.mono HB.I.2.size);have HN:bE ((oa RY (Qx bA S1.lp)).map (fun p=>p.1.toaD)=lZ bA S1.pure.L8):=Sy HO.I.wk.kW;clear hb3 HB;cases hbd:oa RY (Qx bA S1.lp) with
  | none=>
   have e0:(Qx bA S1.lp).length=0:=by rw [CZ RY hbd]; rfl
   have HD:bE (lZ bA S1.pure.L8=n_):=by have h5:=HN.I; rw [hbd] at h5; exact h5.symm
   have d0:decide (0 < (Qx bA S1.lp).length)=false:=decide_eq_false zo;rw [d0];clear hbd e0 d0;simp only [qz,Option.map_none];go_wp2;go_ret;exact ⟨S1,al HV.I.symm,HO.I.at'.below H3.I,HO.I.fits,fun _=>by rw [<- HO.I.same]; exact (Co HD.I).symm,HO.I.cd.trans (H3.I.mono (by have:=HO.I.cd.size; have:=H.I.2.2.2; omega))⟩
  | some r=>
   obtain ⟨x,g⟩:=r;have hmd:=Fg RY hbd;have hm:(x,g)∈S1.lp/\og bA x.toaD=true:=L2.1 hmd;have d0:decide (0 < (Qx bA S1.lp).length)=true:=decide_eq_true (List.length_pos_of_mem hmd);have HD:bE (lZ bA S1.pure.L8=o_ x.toaD/\(x,g)∈S1.lp):=⟨by have h5:=HN.I; rw [hbd] at h5; exact h5.symm,hm.1⟩
   have hst:=(RZ.1 hm.2).1;have hop:=HO.I.wk.op x.toaD (Lr.2 ⟨(x,g),hm.1,rfl⟩) hst;have hro:=HO.I.wk.room;have ai2:=HO.I.at'.below H3.I;have s3:=(bo (ai2.L8.box (x,g) hm.1)).2.2.2.1;have hbs:bj<=w3.heap.size:=by have:=HO.I.cd.size; have:=H3.I.size; have:=H.I.2.2.2; omega
   have Mb:=fun code=>Sv o g bj S1 x code w3 ai2 hbs hm.1 Zc1 Zc1 hop (HO.I.short _ hm.1)
   rw [d0];clear hbd hmd hm d0 hst hop hro ai2 hbs HN;simp only [qz,dt,Option.map_some];cases e2:(x.Md == 2)
   .skip
    replace Mb:=Mb 2;have HCO:bE (mL x.toaD=2):=by show mL x.toaD=_; unfold mL; rw [if_neg Zdk]
    go_wp2_with fail;clear s3 e2;refine Mb.mono ?_;clear Mb;rintro e w4 ⟨rfl,Ss,hb4⟩;have HP:bE ((S1.ju g (pF S1.q.next 2) (gf S1.q.next x.toaD)).pure=gu S1.pure x.toaD):=by
     exact Zas
    have HI:bE (WkI bA bj w S o (lF bA (S1.ju g (pF S1.q.next 2) (gf S1.q.next x.toaD)).pure.L8).length (S1.ju g (pF S1.q.next 2) (gf S1.q.next x.toaD)) w4/\(lF bA (S1.ju g (pF S1.q.next 2) (gf S1.q.next x.toaD)).pure.L8).length < gk):=by
     exact Zcu
    exact ZaK
   .skip
    replace Mb:=Mb 0;have HCO:bE (mL x.toaD=0):=by show mL x.toaD=_; unfold mL; rw [if_pos Zdk]
    go_wp2_with fail;clear s3 e2;refine Mb.mono ?_;clear Mb;rintro e w4 ⟨rfl,Ss,hb4⟩;have HP:bE ((S1.ju g (pF S1.q.next 0) (gf S1.q.next x.toaD)).pure=gu S1.pure x.toaD):=by
     exact Zat
    have HI:bE (WkI bA bj w S o (lF bA (S1.ju g (pF S1.q.next 0) (gf S1.q.next x.toaD)).pure.L8).length (S1.ju g (pF S1.q.next 0) (gf S1.q.next x.toaD)) w4/\(lF bA (S1.ju g (pF S1.q.next 0) (gf S1.q.next x.toaD)).pure.L8).length < gk):=by
     exact Zcu
    exact ZaL
def R3 (p:af) (bA:Int) (w:w_) (hg:p.Good w):
  k_ J3 12 #[a_ p.cells,i_ j_ bA] w fun e w'=>gI w (kk p.pure bA) e w':=by
 have b1:B_ w.heap.size w ((w.alloc (c_ p.cells 31)).alloc (c_ ar 31)):=dT _ _ _;have HB:bE (p.Good ((w.alloc (c_ p.cells 31)).alloc (c_ ar 31))/\B_ w.heap.size w ((w.alloc (c_ p.cells 31)).alloc (c_ ar 31))/\((w.alloc (c_ p.cells 31)).alloc (c_ ar 31)).heap[w.heap.size+1]? =o_ (c_ ar 31)/\av ((w.alloc (c_ p.cells 31)).alloc (c_ ar 31)) w.heap.size p):=⟨hg.below b1,b1,(cZ _ _ _).2,(cZ _ _ _).1⟩
 clear hg b1;obtain ⟨m0,m1,m2,m3,m4,m5,m6,m7⟩:=HB.I.2.2.2.cells;unfold af.cells at *
 go_enter func12,ntmps12
 go_wp2_with fail;generalize (w.alloc (c_ p.row 31)).alloc (c_ ar 31)=W at *;clear m0 m1 m2 m3 m4 m5 m6 m7;refine (iO p W HB.I.1).mono ?_;rintro e w1 ⟨hb1,⟨hno,rfl⟩ | ⟨fm,o,S,rfl,hat,gn⟩⟩
 .have HZ:bE (B_ w.heap.size w w1/\w1.heap[w.heap.size+1]? =o_ (c_ ar 31)/\True):=⟨HB.I.2.1.trans (hb1.mono HB.I.2.1.size),(hb1.block _ (J2.1 HB.I.2.2.1).1).trans HB.I.2.2.1,trivial⟩
  have HN:bE (kk p.pure bA=n_):=by show kk _ _=n_; simp [kk,dL hno]
  clear hb1 hno;go_wp2_with (refine ec 4 21 ar HZ.I.2.1 ?_);refine mG results12 (b_ false) HZ.I.2.1 ?_;exact X_
 have HZ:bE (B_ w.heap.size w w1/\w1.heap[w.heap.size+1]? =o_ (c_ ar 31)/\aQ S.pure/\cJ w1 W.heap.size o S/\S.pure=p.pure/\w.heap.size+1 < W.heap.size/\W.heap.size<=w1.heap.size):=⟨HB.I.2.1.trans (hb1.mono HB.I.2.1.size),(hb1.block _ (J2.1 HB.I.2.2.1).1).trans HB.I.2.2.1,by rw [gn]; exact fm,hat,gn,(J2.1 HB.I.2.2.1).1,hb1.size⟩
 clear hb1 fm hat gn;have HN0:bE (kk p.pure bA=if cv bA 0 1000000000 && decide (S.q.next<=999999980) then o_ (gj bA S.pure) else n_):=by
  have h5:p.pure.next=S.q.next:=(congrArg aE.next HZ.I.2.2.2.2.1).symm
  show kk _ _=_
  unfold kk;rw [h5,<- HZ.I.2.2.2.2.1,fP HZ.I.2.2.1,Bool.true_and]
 have Mb:=Sg o W.heap.size S bA w1 HZ.I.2.2.2.1 HZ.I.2.2.2.2.2.2 (iB HZ.I.2.2.1) HZ.I.2.2.1;go_wp2_with fail;refine Mb.mono ?_;clear Mb;rintro e w2 ⟨S2,rfl,g8,hf2,hp2,hb2⟩;have hlt:=HZ.I.2.2.2.2.2.1;have H2:bE (B_ w.heap.size w w2/\w2.heap[w.heap.size+1]? =o_ (c_ ar 31)/\cJ w2 W.heap.size o S2/\S2.Fits):=⟨HZ.I.1.trans (hb2.mono zo),(hb2.block _ hlt).trans HZ.I.2.1,g8,hf2⟩
 cases hv:(cv bA 0 1000000000 && decide (S.q.next<=999999980))
 .have HN:bE (kk p.pure bA=n_):=by rw [hv] at HN0; exact HN0.I
  clear g8 hf2 hp2 hb2 hv HN0;go_wp2_with (refine ec 4 21 ar H2.I.2.1 ?_);refine mG results12 (b_ false) H2.I.2.1 ?_;exact ca HN.I (q_ H2.I.1 zo _)
 have HN:bE (kk p.pure bA=o_ (gj bA S.pure)):=by rw [hv] at HN0; exact HN0.I
 have HP:bE (S2.pure=gj bA S.pure):=hp2 hv;clear g8 hf2 hp2 hb2 hv HN0;go_wp2_with fail;refine (jR o W.heap.size S2 w2 H2.I.2.2.1 H2.I.2.2.2).mono ?_;rintro e w3 ⟨r,rfl,Bn,wu,hb3⟩;have H3:bE (ap w3 W.heap.size r/\B_ w.heap.size w w3/\w3.heap[w.heap.size+1]? =o_ (c_ ar 31)/\r.pure=gj bA S.pure):=⟨Bn,H2.I.1.trans (hb3.mono H2.I.1.size),(hb3.block _ (J2.1 H2.I.2.1).1).trans H2.I.2.1,wu.trans HP.I⟩
 clear Bn wu hb3;go_wp2_with (refine ec 4 23 (af.cells r) H3.I.2.2.1 ?_);refine mG results12 (b_ true) H3.I.2.2.1 ?_;rw [HN.I];exact ⟨r,rfl,(H3.I.1.lower zo).same fun b hb=>KH _ _ _ _ (by have:=(H3.I.1.lt b hb).1; omega),H3.I.2.2.2,q_ H3.I.2.1 zo _⟩
structure DZ (bA:Int) (bj:Nat) (w:w_) (q0:af) (k:Nat) (q:af) (wr:w_):Prop where
 box:av wr w.heap.size q
 mK:wr.heap[w.heap.size+1]? =o_ (c_ ar 31)
 own:ap wr bj q
 cd:B_ bj w wr
 wk:af9 bA q.pure
 same:gj bA q.pure=gj bA q0.pure
 cnt:(lF bA q.pure.L8).length=k
 short: ∀ x∈q.L8,x.prog.length<=1048576
 low: ∀ g∈q.Mc,g < w.heap.size
def un {q:af} {gs:Nat} (h:q.aN=o_ ⟨gs,0,n_⟩):gs∈q.Mc:=by
 unfold af.Mc;rw [h];simp [blk]
def Eb {bA:Int} {q:af} {n:Nat} {y:ao} {code:Int} (hw:af9 bA q.pure) (hy:q.L8[n]? =o_ y) (hp:q.pure.L8[n]? =o_ y.toaD) (hc:mL y.toaD=code) (hs: ∀ x∈q.L8,x.prog.length<=1048576):
  ({ q with next:=gf q.next y.toaD,L8:=q.L8.set n (pF q.next code y) } :af).pure=gu q.pure y.toaD/\({ q with next:=gf q.next y.toaD,L8:=q.L8.set n (pF q.next code y) } :af).Mc=q.Mc/\(∀ x∈({ q with next:=gf q.next y.toaD,L8:=q.L8.set n (pF q.next code y) } :af).L8,x.prog.length<=1048576):=by
 refine ⟨?_,?_,fun x hx=> ?_⟩
 .unfold gu
  rw [rp hw.kW hp rfl,hc]
  show ({ q.pure with next:=gf q.next y.toaD,L8:=(q.L8.set n (pF q.next code y)).map (·.toaD) } :aE)=_
  rw [PN];rfl
 .unfold af.Mc
  simp only [re hy (show (pF q.next code y).aY=y.aY from rfl)]
 .rcases PO hx with h5 | h5
  .exact hs x h5
  .rw [h5]
   show (iY q.next code y.toaD).prog.length<=_
   rw [(rD _ _ _).2];exact hs y (KA hy)
def ti (q0:af) (bA:Int) (bj:Nat) (w:w_) (h:ap w bj q0) (hb:bj<=w.heap.size) (hk:af9 bA q0.pure) (hs: ∀ x∈q0.L8,x.prog.length<=1048576):
  k_ J3 43 #[a_ q0.cells,i_ j_ bA] w fun e w'=> ∃ q:af,e=r_ (a_ q.cells)/\q.pure=gj bA q0.pure/\ap w' bj q/\B_ bj w w':=by
 have b1:B_ w.heap.size w ((w.alloc (c_ q0.cells 31)).alloc (c_ ar 31)):=dT _ _ _;have HB:bE (DZ bA bj w q0 (lF bA q0.pure.L8).length q0 ((w.alloc (c_ q0.cells 31)).alloc (c_ ar 31))/\bj<=w.heap.size):=⟨⟨(cZ _ _ _).1,(cZ _ _ _).2,h.below b1,b1.mono hb,hk,rfl,rfl,hs,fun g hg=>(h.lt g hg).2⟩,hb⟩
 clear h hb hk hs b1;unfold af.cells at *
 go_enter func43,ntmps43
 go_wp2_with fail;generalize (w.alloc (c_ #[i_ j_ q0.id,i_ j_ q0.next,s_ q0.aN q0.L8.length q0.aW,s_ q0.bc q0.aj.length q0.bF,s_ q0.ay q0.L9.length q0.aO,s_ q0.ax q0.ag.length q0.aP,s_ q0.am q0.ae.length q0.aG,s_ q0.aK q0.ai.length q0.aV] 31)).alloc (c_ ar 31)=W at *
 go_loopg [] (lF bA q0.pure.L8).length (fun k wr=> ∃ q:af,bE (DZ bA bj w q0 k q wr))
 case atStart=>exact ⟨q0,HB.I.1⟩
 case round=>
  obtain ⟨q,HO⟩:=hrel
  rename w_=>W1
  have hql:q.L8.length<=6:=by have h5:=HO.I.wk.low; simpa [af.pure] using h5
  go_wp2_with fail
  go_loopw [5,6] (fun b i wr=> ∃ (k:Nat) (z:Int),k<=q.L8.length/\i=i_ j_ k/\b=i_ j_ z/\bE (eN l8 (og bA) q.pure.L8 k z/\B_ W1.heap.size W1 wr)) (fun _ i _=>q.L8.length - (Go.RowKit.intOf i).toNat)
  case atStart=>exact ⟨0,-1,Ky _,rfl,rfl,⟨eN.start _ _ _,Kp _ _⟩⟩
  case round=>
   obtain ⟨k,z,hk,rfl,rfl,HA⟩:=hrel;have HW:bE (av wr w.heap.size q/\ap wr bj q):=⟨HO.I.box.below HA.I.2,HO.I.own.below HA.I.2⟩
   obtain ⟨m0,m1,m2,m3,m4,m5,m6,m7⟩:=HW.I.1.cells;by_cases hlt:k < q.L8.length
   .have i0:(0:Int)<=(k:Int):=zo
    have i1:(k:Int) < (q.L8.length:Int):=zo
    clear m0 m1 m3 m4 m5 m6 m7;obtain ⟨x,hx⟩: ∃ x,q.L8[k]? =o_ x:=⟨_,Kz hlt⟩
    have HX:bE (q.L8[k]? =o_ x/\q.pure.L8[k]? =o_ x.toaD):=⟨hx,by show (q.L8.map (·.toaD))[k]? =_; rw [Kk,hx]; rfl⟩
    obtain ⟨gs,ha,hat⟩:=cn HW.I.2.at.1 hx;have HG:bE (q.aN=o_ ⟨gs,0,n_⟩):=ha;rw [ha] at m2;obtain ⟨d0,d1,d2,d3,d4,d5,d6,d7,d8,d9,tH,tS⟩:=hat;clear hx ha;have hgl:w.heap.size < wr.heap.size:=(J2.1 HW.I.1).1;have HN:bE (av (wr.alloc (c_ x.row 41)) w.heap.size q/\ap (wr.alloc (c_ x.row 41)) bj q/\jx (wr.alloc (c_ x.row 41)) wr.heap.size x/\B_ W1.heap.size W1 (wr.alloc (c_ x.row 41))):=⟨HW.I.1.below ((Kp _ _).alloc (Ki _) _),HW.I.2.below ((Kp _ _).alloc (Ki _) _),Kj _ _,HA.I.2.alloc HA.I.2.size _⟩
    go_wp2_with fail;generalize wr.alloc (c_ x.row 41)=W5 at *;generalize wr.heap.size=X at *;clear d0 d1 d2 d3 d4 d5 d6 d7 d8 d9 tH tS m2 hgl;obtain ⟨-,-,m2,-⟩:=HN.I.1.cells;rw [HG.I] at m2;obtain ⟨-,-,-,b3,-,-,b6,-⟩:=HN.I.2.2.1.cells;by_cases hs:2<=x.Md;rotate_left
    .have d1:decide (2<=x.Md)=false:=decide_eq_false hs
     have HY:bE (eN l8 (og bA) q.pure.L8 (k+1) z):=HA.I.1.skip HX.I.2 (by show (decide (2<=x.Md) && _)=false; rw [d1]; rfl);clear hs;refine aT (fun w'=>(w'.cell? ⟨w.heap.size,2,n_⟩=o_ (s_ (o_ ⟨gs,0,n_⟩) q.L8.length q.aW)/\w'.cell? ⟨X,3,n_⟩=o_ (i_ j_ x.Md)/\w'.cell? ⟨X,6,n_⟩=o_ (i_ j_ x.Mg))/\bE (B_ W5.heap.size W5 w')) ZcE ⟨⟨m2,b3,b6⟩,(Kp _ _).drew⟩ ?_
     iterate 4 (refine PI ?_)
     iterate 4 (refine nl ?_; simp only [pt,sb,s0,s1])
     exact O_
    have d1:decide (2<=x.Md)=true:=decide_eq_true hs;cases hv:cv x.Mg 1 bA
    .have afp:bE (Ending.returned (b_ (cv x.Mg 1 bA))=Ending.returned (b_ false)):=by show _=_; rw [hv]
     have HY:bE (eN l8 (og bA) q.pure.L8 (k+1) z):=HA.I.1.skip HX.I.2 (by show (_ && cv x.Mg 1 bA)=false; rw [hv,PP]);clear hs hv;refine aT (fun w'=>(w'.cell? ⟨w.heap.size,2,n_⟩=o_ (s_ (o_ ⟨gs,0,n_⟩) q.L8.length q.aW)/\w'.cell? ⟨X,3,n_⟩=o_ (i_ j_ x.Md)/\w'.cell? ⟨X,6,n_⟩=o_ (i_ j_ x.Mg))/\bE (B_ W5.heap.size W5 w')) ZcE ⟨⟨m2,b3,b6⟩,(Kp _ _).drew⟩ ?_
     iterate 7 (refine PI ?_)
     refine cl (b_ false) 27 #[i_ j_ x.Mg,i_ j_ 1,i_ j_ bA] ?_ ?_ ?_
     .intro w0 hS0
      obtain ⟨⟨o2,o3,o6⟩,hH⟩:=hS0
      exact BC
     .exact Zad
     simp only [pt,sb,s0,s1]
     exact O_
    have afp:bE (Ending.returned (b_ (cv x.Mg 1 bA))=Ending.returned (b_ true)):=by show _=_; rw [hv]
    have HF:bE (og bA x.toaD=true):=by show (decide (2<=x.Md) && cv x.Mg 1 bA)=true; rw [hv,d1]; rfl
    clear hs hv;by_cases hz:z < 0
    .have afO:decide (z < 0)=true:=decide_eq_true hz
     have HY:bE (eN l8 (og bA) q.pure.L8 (k+1) k):=HA.I.1.first hz HX.I.2 HF.I;refine aT (fun w'=>(w'.cell? ⟨w.heap.size,2,n_⟩=o_ (s_ (o_ ⟨gs,0,n_⟩) q.L8.length q.aW)/\w'.cell? ⟨X,3,n_⟩=o_ (i_ j_ x.Md)/\w'.cell? ⟨X,6,n_⟩=o_ (i_ j_ x.Mg))/\bE (B_ W5.heap.size W5 w')) ZcE ⟨⟨m2,b3,b6⟩,(Kp _ _).drew⟩ ?_
     iterate 7 (refine PI ?_)
     refine cl (b_ true) 27 #[i_ j_ x.Mg,i_ j_ 1,i_ j_ bA] ?_ ?_ ?_
     .intro w0 hS0
      obtain ⟨⟨o2,o3,o6⟩,hH⟩:=hS0
      exact BC
     .exact Zad
     simp only [pt,sb,s0,s1]
     iterate 5 (refine PI ?_)
     iterate 9 (refine nl ?_; simp only [pt,sb,s0,s1])
     iterate 2 (refine PI ?_)
     exact Zae
    have afO:decide (z < 0)=false:=decide_eq_false hz;obtain ⟨n,y0,hzn,hn,hy0,hbe⟩:=HA.I.1.got hz;subst hzn;have Fm:bE (eN l8 (og bA) q.pure.L8 (k+1) (if l8 x.toaD y0 then (k:Int) else (n:Int))):=eN.next hn hy0 hbe HX.I.2 HF.I;obtain ⟨y,hy,rfl⟩: ∃ y,q.L8[n]? =o_ y/\y.toaD=y0:=by
     have h5:(q.L8.map (·.toaD))[n]? =o_ y0:=hy0;rw [Kk,Kw] at h5;exact h5
    have j0:(0:Int)<=(n:Int):=zo
    have j1:(n:Int) < (q.L8.length:Int):=zo
    obtain ⟨gs2,ha2,g8⟩:=cn HN.I.2.1.at.1 hy;rw [HG.I] at ha2;cases ha2;obtain ⟨-,-,-,-,-,-,y6,-⟩:=g8;clear hy hy0 hbe hz;by_cases hw:x.Mg < y.Mg
    .have af6:decide (x.Mg < y.Mg)=true:=decide_eq_true hw
     have HY:bE (eN l8 (og bA) q.pure.L8 (k+1) k):=by have h5:=Fm.I; rwa [show l8 x.toaD y.toaD=true from af6,if_pos rfl] at h5
     clear hw Fm;refine aT (fun w'=>(w'.cell? ⟨w.heap.size,2,n_⟩=o_ (s_ (o_ ⟨gs,0,n_⟩) q.L8.length q.aW)/\w'.cell? ⟨X,3,n_⟩=o_ (i_ j_ x.Md)/\w'.cell? ⟨X,6,n_⟩=o_ (i_ j_ x.Mg)/\w'.cell? ⟨gs,n * 12+6,n_⟩=o_ (i_ j_ y.Mg))/\bE (B_ W5.heap.size W5 w')) ZcE ⟨⟨m2,b3,b6,y6⟩,(Kp _ _).drew⟩ ?_
     iterate 7 (refine PI ?_)
     refine cl (b_ true) 27 #[i_ j_ x.Mg,i_ j_ 1,i_ j_ bA] ?_ ?_ ?_
     .intro w0 hS0
      obtain ⟨⟨o2,o3,o6,afI⟩,hH⟩:=hS0
      exact BC
     .exact Zad
     simp only [pt,sb,s0,s1]
     iterate 16 (refine PI ?_)
     exact Zae
    .have af6:decide (x.Mg < y.Mg)=false:=decide_eq_false hw
     have HY:bE (eN l8 (og bA) q.pure.L8 (k+1) n):=by have h5:=Fm.I; rwa [show l8 x.toaD y.toaD=false from af6,if_neg Bool.false_ne_true] at h5
     clear hw Fm;refine aT (fun w'=>(w'.cell? ⟨w.heap.size,2,n_⟩=o_ (s_ (o_ ⟨gs,0,n_⟩) q.L8.length q.aW)/\w'.cell? ⟨X,3,n_⟩=o_ (i_ j_ x.Md)/\w'.cell? ⟨X,6,n_⟩=o_ (i_ j_ x.Mg)/\w'.cell? ⟨gs,n * 12+6,n_⟩=o_ (i_ j_ y.Mg))/\bE (B_ W5.heap.size W5 w')) ZcE ⟨⟨m2,b3,b6,y6⟩,(Kp _ _).drew⟩ ?_
     iterate 7 (refine PI ?_)
     refine cl (b_ true) 27 #[i_ j_ x.Mg,i_ j_ 1,i_ j_ bA] ?_ ?_ ?_
     .intro w0 hS0
      obtain ⟨⟨o2,o3,o6,afI⟩,hH⟩:=hS0
      exact BC
     .exact Zad
     simp only [pt,sb,s0,s1]
     iterate 16 (refine PI ?_)
     refine bk ZcE ?_ _;intro w1 cm;have HV:bE (B_ W1.heap.size W1 w1):=HN.I.2.2.2.trans (cm.2.I.mono HN.I.2.2.2.size);clear cm;go_wp2;go_roundw
     case rel=>exact ⟨k+1,n,zo,by go_num,rfl,⟨HY.I,HV.I⟩⟩
     case measure=>simp [Go.RowKit.intOf]; omega
   .have i1: ¬ (k:Int) < (q.L8.length:Int):=zo
    have HE:bE (eN l8 (og bA) q.pure.L8 q.L8.length z):=by have h5:=HA.I.1; rwa [show k=q.L8.length by omega] at h5
    have hfl:q.pure.L8.take q.L8.length=q.pure.L8:=by rw [KF]; simp [af.pure]
    have Ih:bE (wr.heap[w.heap.size+1]? =o_ (c_ ar 31)/\B_ bj w wr):=⟨(HA.I.2.block _ (J2.1 HO.I.mK).1).trans HO.I.mK,HO.I.cd.trans (HA.I.2.mono (by have:=HO.I.cd.size; have:=HB.I.2; omega))⟩
    by_cases hz:z < 0
    .have HD:bE (lZ bA q.pure.L8=n_):=by have h5:=HE.I.none' hz; rwa [hfl] at h5
     have afO:decide (z < 0)=true:=decide_eq_true hz;clear hfl hz;go_wp2_with (refine ec 4 48 q.row Ih.I.1 ?_);refine gZ results43 Ih.I.1 ?_;exact ⟨q,rfl,by rw [<- HO.I.same]; exact (Co HD.I).symm,HW.I.2.same fun g hg=>KH _ _ _ _ (by have:=HO.I.low g hg; omega),q_ Ih.I.2 (by have:=HB.I.2; omega) _⟩
    have afO:decide (z < 0)=false:=decide_eq_false hz;obtain ⟨n,y0,hzn,hn,hy0,hbe⟩:=HE.I.got hz;subst hzn;rw [hfl] at hbe;obtain ⟨y,hy,rfl⟩: ∃ y,q.L8[n]? =o_ y/\y.toaD=y0:=by
     have h5:(q.L8.map (·.toaD))[n]? =o_ y0:=hy0;rw [Kk,Kw] at h5;exact h5
    have HD:bE (lZ bA q.pure.L8=o_ y.toaD/\q.L8[n]? =o_ y/\q.pure.L8[n]? =o_ y.toaD):=⟨hbe,hy,hy0⟩
    have j0:(0:Int)<=(n:Int):=zo
    have j1:(n:Int) < (q.L8.length:Int):=zo
    obtain ⟨gs,ha,hat⟩:=cn HW.I.2.at.1 hy;have HG:bE (q.aN=o_ ⟨gs,0,n_⟩):=ha;have d3:=hat.2.2.2.1;rw [ha] at m2;have hdu:=(af9.mem hbe)
    have hst:2<=y.Md:=by have h5:=hdu.2; unfold og at h5; simp only [J7,decide_eq_true_eq] at h5; exact h5.1
    have hop:=HO.I.wk.op y.toaD hdu.1 hst;have hro:=HO.I.wk.room;have hle:=HO.I.short y (KA hy);have Mb:=fun code=>vT q n bj y code wr HW.I.2 (by have:=HO.I.cd.size; have:=HA.I.2.size; have:=HB.I.2; omega) hy hop hle (by have h5:q.pure.next=q.next:=rfl; omega)
    clear hfl hz hbe hy hy0 hat ha hdu hst hop hro hle hn;unfold af.cells at Mb;simp only [HG.I] at Mb;cases e2:(y.Md == 2)
    .skip
     replace Mb:=Mb 2;have HCO:bE (mL y.toaD=2):=by show mL y.toaD=_; unfold mL; rw [if_neg Zdk]
     exact g_
    .skip
     replace Mb:=Mb 0;have HCO:bE (mL y.toaD=0):=by show mL y.toaD=_; unfold mL; rw [if_pos Zdk]
     exact g_
def uy (p:af) (w:w_):k_ J3 28 #[a_ p.cells] w fun e w'=>e=r_ (b_ (decide (p.next<=999999980)))/\B_ w.heap.size w w':=by
 have HB:bE (av (w.alloc (c_ p.cells 31)) w.heap.size p/\B_ w.heap.size w (w.alloc (c_ p.cells 31))):=⟨Kj _ _,(Kp _ _).alloc (Ki _) _⟩
 unfold af.cells at *;obtain ⟨-,m1,-⟩:=HB.I.1.cells
 go_enter func28,ntmps28
 go_wp2;go_ret;exact ⟨rfl,HB.I.2⟩
end
section
open Go.Maps
def uI (w:w_) (bj:Nat) (a0:Option d_) (c0:Nat) (l0:List bD) (ho:w.ownsRow bj 89 3 (s_ a0 l0.length c0) l0.length (dm.flat l0)) (a:Option d_) (l:List bD) (cap:Nat) (h:ld w a (dm.flat l)) (hl:l0.length+l.length<=4000000) (lY:bj<=w.heap.size):
  ∃ a' cap' w',(Builtin.append_ #[25,25] 25 #[s_ a0 l0.length c0,s_ a l.length cap]).run J3 w= .ok (s_ a' (l0.length+l.length) cap') w'/\w'.ownsRow bj 89 3 (s_ a' (l0.length+l.length) cap') (l0.length+l.length) (dm.flat (l0 ++ l))/\w.grownBy w' (Value.slice a0 l0.length c0).ownBlock/\ ∀ g∈blk a',g∈blk a0\/g=w.heap.size:=by
 obtain ⟨i,hi,e⟩:=Kw.1 yS;simp only [Kx] at e;rw [dm.dc];exact jD w bj _ _ 89 i _ 3 24 underlying25 hi e.1 e.2.1 e.2.2 rfl (by decide) a0 l0.length c0 _ ho a l.length cap _ h (dm.dM l) Ec hl (by decide) lY
def ap.newSem {w w':w_} {bj B:Nat} {q:af} {l:List bD} {a':Option d_} {c':Nat} (h:ap w bj q) (hb:bj<=B) (hB: ∀ g∈q.Mc,g < B) (hs: ∀ g∈q.Mc,w'.heap[g]? =w.heap[g]?)
  (ho:w'.ownsRow B 89 3 (s_ a' l.length c') l.length (dm.flat l)):ap w' bj ({ q with aj:=l,bc:=a',bF:=c' } :af):=by
 refine ⟨aL h.L8 fun g hg=>hs g ZcH,cq ho hb,aL h.L9 fun g hg=>hs g ZcH,aL h.ag fun g hg=>hs g ZcH,aL h.ae fun g hg=>hs g ZcH,aL h.ai fun g hg=>hs g ZcH,fun x hx=>(h.eI x hx).same fun g hg=>hs g ?_,fun x hx=>(h.eE x hx).same fun g hg=>hs g ?_,fun x hx=>(h.eR x hx).same fun g hg=>hs g ?_,?_⟩
 .exact ZaA
 .exact Q3
 .exact L_
 .have h5:=h.nodup
  have h6: ∀ g∈blk a',g∉q.Mc:=fun g hg hm=>by have:=(cf ho hg).1; have:=hB g hm; omega
  have e1: ∀ (a2:Option d_) (l2:List bD) (c2:Nat),({ q with aj:=l2,bc:=a2,bF:=c2 } :af).Mc=(blk q.aN ++ q.L8.filterMap aR.bt) ++ (blk a2 ++ (blk q.ay ++ (blk q.ax ++ (blk q.am ++ (q.ae.filterMap aC.bt ++ (blk q.aK ++ q.ai.filterMap aU.bt)))))):=fun _ _ _=>by simp [af.Mc]
  have e2:=e1 q.bc q.aj q.bF;rw [e1];have e3:q.Mc=(blk q.aN ++ q.L8.filterMap aR.bt) ++ (blk q.bc ++ (blk q.ay ++ (blk q.ax ++ (blk q.am ++ (q.ae.filterMap aC.bt ++ (blk q.aK ++ q.ai.filterMap aU.bt)))))):=e2;rw [e3] at h5 h6;exact qv h5 (fN _) h6
end
section
abbrev newP (id RX:Int) (l:List dN):aD:=⟨id,RX,l,0,0,0,0,0,⟨#[]⟩,⟨#[]⟩,0,0⟩
section
variable {p:aE} {id RX:Int} {l:List dN}
def pO (h:p.Small) (hr:bK p=true) (hx:l.length<=1048576/\ ∀ o∈l,o.2.2.2.size<=1048576) (hw:(Lit.int j_ id).wf=true):aE.Small { p with L8:=bY (·.id) (newP id RX l) p.L8 } :=by
 have h2:=((ch _).1 hr).dl;exact ⟨by show (bY (·.id) (newP id RX l) p.L8).length<=_; rw [er]; omega,h.fx,h.cD,h.cC,h.cb,h.dH,fun y hy=>(fq.1 hy).elim (fun e=>e ▸ ⟨⟨hx.1,hx.2,Ky _,Ky _⟩,hw,by show (Lit.int j_ 0).wf=true; decide,by show (Lit.int j_ 0).wf=true; decide⟩) (h.L8 y),h.aj,h.L9,h.ag,h.ae,h.ai⟩
end
end
section
open Go.Maps
def pX (w:w_) (bj:Nat) (a0:Option d_) (c0:Nat) (l0:List az) (ho:w.ownsRow bj 93 3 (s_ a0 l0.length c0) l0.length (bG.flat l0)) (a:Option d_) (l:List az) (cap:Nat) (h:ld w a (bG.flat l)) (hl:l0.length+l.length<=4000000) (lY:bj<=w.heap.size):
  ∃ a' cap' w',(Builtin.append_ #[27,27] 27 #[s_ a0 l0.length c0,s_ a l.length cap]).run J3 w= .ok (s_ a' (l0.length+l.length) cap') w'/\w'.ownsRow bj 93 3 (s_ a' (l0.length+l.length) cap') (l0.length+l.length) (bG.flat (l0 ++ l))/\w.grownBy w' (Value.slice a0 l0.length c0).ownBlock/\ ∀ g∈blk a',g∈blk a0\/g=w.heap.size:=by
 obtain ⟨i,hi,e⟩:=Kw.1 sj;simp only [Kx] at e;rw [bG.dc];exact jD w bj _ _ 93 i _ 3 32 underlying27 hi e.1 e.2.1 e.2.2 rfl (by decide) a0 l0.length c0 _ ho a l.length cap _ h (bG.dM l) xV hl (by decide) lY
def ap.GV {w w':w_} {bj B:Nat} {q:af} {l:List az} {a':Option d_} {c':Nat} (h:ap w bj q) (hb:bj<=B) (hB: ∀ g∈q.Mc,g < B) (hs: ∀ g∈q.Mc,w'.heap[g]? =w.heap[g]?)
  (ho:w'.ownsRow B 93 3 (s_ a' l.length c') l.length (bG.flat l)):ap w' bj ({ q with ag:=l,ax:=a',aP:=c' } :af):=by
 refine ⟨aL h.L8 fun g hg=>hs g ZcH,aL h.aj fun g hg=>hs g ZcH,aL h.L9 fun g hg=>hs g ZcH,cq ho hb,aL h.ae fun g hg=>hs g ZcH,aL h.ai fun g hg=>hs g ZcH,fun x hx=>(h.eI x hx).same fun g hg=>hs g ?_,fun x hx=>(h.eE x hx).same fun g hg=>hs g ?_,fun x hx=>(h.eR x hx).same fun g hg=>hs g ?_,?_⟩
 .exact ZaA
 .exact Q3
 .exact L_
 .have h5:=h.nodup
  have h6: ∀ g∈blk a',g∉q.Mc:=fun g hg hm=>by have:=(cf ho hg).1; have:=hB g hm; omega
  have e1: ∀ (a2:Option d_) (l2:List az) (c2:Nat),({ q with ag:=l2,ax:=a2,aP:=c2 } :af).Mc=(blk q.aN ++ (q.L8.filterMap aR.bt ++ (blk q.bc ++ blk q.ay))) ++ (blk a2 ++ (blk q.am ++ (q.ae.filterMap aC.bt ++ (blk q.aK ++ q.ai.filterMap aU.bt)))):=fun _ _ _=>by simp [af.Mc]
  have e2:=e1 q.ax q.ag q.aP;rw [e1];have e3:q.Mc=(blk q.aN ++ (q.L8.filterMap aR.bt ++ (blk q.bc ++ blk q.ay))) ++ (blk q.ax ++ (blk q.am ++ (q.ae.filterMap aC.bt ++ (blk q.aK ++ q.ai.filterMap aU.bt)))):=e2;rw [e3] at h5 h6;exact qv h5 (fN _) h6
def qu (w:w_) (bj:Nat) (a0:Option d_) (c0:Nat) (l0:List aB) (ho:w.ownsRow bj 91 2 (s_ a0 l0.length c0) l0.length (bJ.flat l0)) (a:Option d_) (l:List aB) (cap:Nat) (h:ld w a (bJ.flat l)) (hl:l0.length+l.length<=4000000) (lY:bj<=w.heap.size):
  ∃ a' cap' w',(Builtin.append_ #[26,26] 26 #[s_ a0 l0.length c0,s_ a l.length cap]).run J3 w= .ok (s_ a' (l0.length+l.length) cap') w'/\w'.ownsRow bj 91 2 (s_ a' (l0.length+l.length) cap') (l0.length+l.length) (bJ.flat (l0 ++ l))/\w.grownBy w' (Value.slice a0 l0.length c0).ownBlock/\ ∀ g∈blk a',g∈blk a0\/g=w.heap.size:=by
 obtain ⟨i,hi,e⟩:=Kw.1 so;simp only [Kx] at e;rw [bJ.dc];exact jD w bj _ _ 91 i _ 2 16 underlying26 hi e.1 e.2.1 e.2.2 rfl (by decide) a0 l0.length c0 _ ho a l.length cap _ h (bJ.dM l) xB hl (by decide) lY
def ap.Ge {w w':w_} {bj B:Nat} {q:af} {l:List aB} {a':Option d_} {c':Nat} (h:ap w bj q) (hb:bj<=B) (hB: ∀ g∈q.Mc,g < B) (hs: ∀ g∈q.Mc,w'.heap[g]? =w.heap[g]?)
  (ho:w'.ownsRow B 91 2 (s_ a' l.length c') l.length (bJ.flat l)):ap w' bj ({ q with L9:=l,ay:=a',aO:=c' } :af):=by
 refine ⟨aL h.L8 fun g hg=>hs g ZcH,aL h.aj fun g hg=>hs g ZcH,cq ho hb,aL h.ag fun g hg=>hs g ZcH,aL h.ae fun g hg=>hs g ZcH,aL h.ai fun g hg=>hs g ZcH,fun x hx=>(h.eI x hx).same fun g hg=>hs g ?_,fun x hx=>(h.eE x hx).same fun g hg=>hs g ?_,fun x hx=>(h.eR x hx).same fun g hg=>hs g ?_,?_⟩
 .exact ZaA
 .exact Q3
 .exact L_
 .have h5:=h.nodup
  have h6: ∀ g∈blk a',g∉q.Mc:=fun g hg hm=>by have:=(cf ho hg).1; have:=hB g hm; omega
  have e1: ∀ (a2:Option d_) (l2:List aB) (c2:Nat),({ q with L9:=l2,ay:=a2,aO:=c2 } :af).Mc=(blk q.aN ++ (q.L8.filterMap aR.bt ++ blk q.bc)) ++ (blk a2 ++ (blk q.ax ++ (blk q.am ++ (q.ae.filterMap aC.bt ++ (blk q.aK ++ q.ai.filterMap aU.bt))))):=fun _ _ _=>by simp [af.Mc]
  have e2:=e1 q.ay q.L9 q.aO;rw [e1];have e3:q.Mc=(blk q.aN ++ (q.L8.filterMap aR.bt ++ blk q.bc)) ++ (blk q.ay ++ (blk q.ax ++ (blk q.am ++ (q.ae.filterMap aC.bt ++ (blk q.aK ++ q.ai.filterMap aU.bt))))):=e2;rw [e3] at h5 h6;exact qv h5 (fN _) h6
end
section
def vR {p:aE} {x:az} (h:p.Small) (hr:bK p=true) (hx:(Lit.int j_ x.id).wf=true/\x.text.size<=1048576):aE.Small { p with ag:=cA (·.id) x p.ag } :=by
 have h2:=((ch _).1 hr).cC;exact ⟨h.dl,h.fx,h.cD,by show (cA (·.id) x p.ag).length<=_; rw [eJ]; omega,h.cb,h.dH,h.L8,h.aj,h.L9,fun y hy=>(js.1 hy).elim (fun e=>e ▸ hx) (h.ag y),h.ae,h.ai⟩
def vS {p:aE} {x:aB} (h:p.Small) (hr:bK p=true) (hx:(Lit.int j_ x.id).wf=true):aE.Small { p with L9:=cA (·.id) x p.L9 } :=by
 have h2:=((ch _).1 hr).cD;exact ⟨h.dl,h.fx,by show (cA (·.id) x p.L9).length<=_; rw [eJ]; omega,h.cC,h.cb,h.dH,h.L8,h.aj,fun y hy=>(js.1 hy).elim (fun e=>e ▸ hx) (h.L9 y),h.ag,h.ae,h.ai⟩
end
section
open Go Go.RowKit
def aaH (a:Act) (v:v_):a.put n_ v=a:=rfl
def tkr {P:Program} {md:Region.Mode} {ops:Array Oper} {Q:Exit->Act->w_->Prop} {S:w_->Prop} (i:Nat) {oi:Oper} {v:v_} {fuel:Nat} {RV:Array Bool} {a:Act} {w:w_} {d:Tmp} (hi:ops[i]? =o_ oi) (hy:YieldsIf P ops S oi v a) (hS:S w)
  (h:wpAnyH P md ops Q S fuel (RV.setIfInBounds i true) (a.put (o_ d) v) w) (hd:oi.dst=o_ d:=by rfl) (h1:Region.noSelect ops=true:=by kernel_rfl) (h2:Region.free md ops RV i=true:=by kernel_rfl) (h3:(Region.ready md ops RV).contains i=true:=by kernel_rfl)
  (hQ: ∀ c a w,Q (.panic c) (a.put (o_ d) v) w->Q (.panic c) a w:=by exact fun _ _ _ h=>h):wpAnyH P md ops Q S (fuel+1) RV a w:=by
 rw [<- hd] at h hQ;exact wpAnyH_take (i:=i) hi h1 h2 h3 hQ hy hS h
def oc (cs:Array v_) (T:T_) (X:Nat) (W:w_):Prop:=W.heap[X]? =o_ (c_ cs T)
section
variable {cs:Array v_} {T:T_} {X:Nat} {W W':w_} {bs:List Nat}
def oc.lt (h:oc cs T X W):X < W.heap.size:=(J2.1 h).1
def oc.below (h:oc cs T X W) (hb:B_ W.heap.size W W'):oc cs T X W':=(hb.block _ h.lt).trans h
def oc.kept (h:oc cs T X W) (hk:aI W W' bs) (hs:X∉bs):oc cs T X W':=(hk.same _ h.lt hs).trans h
end
def Y5 {α : Type} {l : List α} {i : Nat} (h : i < l.toArray.size) : l.toArray[i]'h = l[i]'(by simpa using h) := by simp
def gs {α : Type} {a : α} {l : List α} {i : Nat} (h : i + 1 < (a :: l).length) : (a :: l)[i + 1]'h = l[i]'(Nat.lt_of_succ_lt_succ h) := rfl
section
variable {p q:af} {w W U V:w_} {B X b:Nat} {cs:Array v_} {T:T_} {Y:Prop}
end
end
end Go.Proofs.YtfncpmaefninjaaGreatDoor
