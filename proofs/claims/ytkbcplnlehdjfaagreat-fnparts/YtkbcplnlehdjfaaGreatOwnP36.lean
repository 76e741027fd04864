/- What the proof leans on, part 36. -/
import Derived.Test.YtkbcplnlehdjfaaGreatOwnP33
import Derived.Test.YtkbcplnlehdjfaaGreatOwnP34
set_option maxRecDepth 100000
set_option maxHeartbeats 8000000
open Array renaming getElem?_eq_some_iff->J2
open Bool renaming and_eq_true->J7
open Go renaming frozen_of_row->Ko,heap_alloc_new->Kj,setRow_heap->KU,setRow_other->KH,wp_at_succ->Kd,wp_at_zero->Kc
open Go.Proofs.Tryz renaming prog->J3,results43->RO,underlying29->Qt
open Go.RowKit.Below renaming refl->Kp
open Go.World renaming ownsRow_nil->Ke
open Int renaming le_refl->LJ
open List renaming getElem?_eq_getElem->Kz,getElem?_eq_some_iff->Lj,length_append->Lf,length_cons->Lg,length_nil->K4,length_set->LI,mem_append->Kg,mem_cons->Kt,mem_filterMap->Lq,mem_iff_getElem->LK,not_mem_nil->Ku
open Nat renaming le_refl->Ki,zero_le->Ky

namespace Go.Proofs.YtkbcplnlehdjfaaGreat
section
open Go.RowKit Go.Maps
attribute [local go_sem ↓] Kc Kd
theorem xN {p q:af} {w W W2 w9:World} {o b0 n9 c9:Nat} {x:au} {xp:ci} {XV:Array Value} {acc:List au} {a9:Option Addr} (hB:av W2 w.heap.size p∧ap W2 b0 p∧Below w.heap.size w W2∧W2.heap[w.heap.size+1]? =some (.cells ar 32 (0,0)))
  (hQ:av W2 o q∧ap W2 W.heap.size q∧q.pure=p.pure∧(∀ g∈q.Mc,g < o)∧W.heap.size≤o∧w.heap.size+1 < W.heap.size∧o < W2.heap.size) (hpb: ∀ g∈p.Mc,g < w.heap.size) (hl:fy bm 144 XV W2 w9 acc a9 c9) (ha:acc=bY (fun y:au=>y.id) x q.ae) (hn:acc.length=n9) (hx:x.toci=xp)
  (hk: ∀ g,aC.bt x=some g→g∉q.Mc∧g≠o) (hm:aC.cO W2 W.heap.size x):
  (av (w9.setCell ⟨o,6,none⟩ (.slice a9 n9 c9)) w.heap.size p∧ap (w9.setCell ⟨o,6,none⟩ (.slice a9 n9 c9)) b0 p∧Below w.heap.size w (w9.setCell ⟨o,6,none⟩ (.slice a9 n9 c9))∧(w9.setCell ⟨o,6,none⟩ (.slice a9 n9 c9)).heap[w.heap.size+1]? =some (.cells ar 32 (0,0)))∧av (w9.setCell ⟨o,6,none⟩ (.slice a9 n9 c9)) o ({ q with ae:=acc,am:=a9,aG:=c9 } :af)∧ap (w9.setCell ⟨o,6,none⟩ (.slice a9 n9 c9)) W.heap.size ({ q with ae:=acc,am:=a9,aG:=c9 } :af)∧({ q with ae:=acc,am:=a9,aG:=c9 } :af).pure= { p.pure with ae:=bY (·.id) xp p.pure.ae } :=by
 have hb:=hl.cd;have nW:=hQ.2.2.2.1;have sm: ∀ g,g < W2.heap.size→g≠o→(w9.setCell ⟨o,6,none⟩ (.slice a9 n9 c9)).heap[g]? =W2.heap[g]? :=fun g hg hne=>(aH hne).trans (hb.block _ hg)
 have lY:Below w.heap.size w (w9.setCell ⟨o,6,none⟩ (.slice a9 n9 c9)):=bP (hB.2.2.1.trans (hb.mono (by omega))) (by omega);have iH: ∀ g∈acc.filterMap aC.bt,g∈q.ae.filterMap aC.bt∨aC.bt x=some g:=fun g hg=>by
  obtain ⟨z,hz,he⟩:=Lq.1 hg;rw [ha] at hz;rcases fq.1 hz with rfl | hz
  ·exact .inr he
  ·exact .inl (Lq.2 ⟨z,hz,he⟩)
 have hin: ∀ g∈q.ae.filterMap aC.bt,g∈q.Mc:=fun g hg=>by simp only [af.Mc,Kg]; simp [hg]
 refine ⟨⟨(sm _ (by omega) (by omega)).trans hB.1,hB.2.1.same fun g hg=>sm g (by have:=hpb g hg; omega) (by have:=hpb g hg; omega),lY,(sm _ (by omega) (by omega)).trans hB.2.2.2⟩,?_,?_,?_⟩
 ·have h5:=cx (i:=6) (v:= .slice a9 n9 c9) ((hb.block _ hQ.2.2.2.2.2.2).trans hQ.1)
  unfold av;simp only [hn];exact h5
 ·refine hQ.2.1.Eu (B:=W2.heap.size) (by omega) (fun g hg=>by have:=nW g hg; omega) (fun g hg=>sm g (by have:=nW g hg; omega) (by have:=nW g hg; omega)) ?_ (fun z hz=> ?_) ?_ (fun g hg=> ?_) (fun g hg=> ?_)
  ·exact aL hl.own fun g hg=>aH (by have:=(cf hl.own hg).1; omega)
  ·rw [ha] at hz
   rcases fq.1 hz with rfl | hz
   ·exact hm.same fun g hg=>sm g (hm.lt hg).2 (hk g hg).2
   ·refine (hQ.2.1.eE z hz).same fun g hg=> ?_
    have h5:=nW g (hin g (Lq.2 ⟨z,hz,hg⟩));exact sm g (by omega) (by omega)
  ·have h5:=hQ.2.1.nodup
   simp only [af.Mc,List.nodup_append] at h5;have h6:(q.ae.filterMap aC.bt).Nodup:=h5.2.1.2.1.2.1.2.1.2.1.2.1.1;have hp:(acc.filterMap aC.bt).Perm ((x :: q.ae).filterMap aC.bt):=by rw [ha]; exact (pz x _).filterMap _
   refine hp.nodup_iff.2 ?_;cases he:aC.bt x with
   | none=>rw [List.filterMap_cons_none he]; exact h6
   | some g=>rw [List.filterMap_cons_some he]; exact List.nodup_cons.2 ⟨fun h7=>(hk g he).1 (hin g h7),h6⟩
  ·rcases iH g hg with h5 | h5
   ·exact .inl h5
   ·exact .inr (hk g h5).1
  ·rcases iH g hg with h5 | h5
   ·have:=nW g (hin g h5); omega
   ·exact (hm.lt h5).2
 ·show ({ q.pure with ae:=acc.map (·.toci) } :aE)=_
  have e1:q.ae.map (·.toci)=p.pure.ae:=congrArg aE.ae hQ.2.2.1;rw [ha,rF (je:=(·.id)) (fun y:au=>y.toci) (fun _=>rfl),e1,hx,hQ.2.2.1]
theorem qh (p:af) (id Me:Int) (w:World) (b0:Nat) (hwf:(Lit.int .i64 id).wf=true) (qY:p.pure.Small) (h:ap w b0 p):
  Calls J3 43 #[.agg p.cells,.int .i64 id,.int .i64 Me] w fun e w'=>gI w (cB p.pure { p.pure with ae:=bY (·.id) (⟨id,Me,[]⟩:ci) p.pure.ae }) e w':=by
 have HB:Hid (av ((w.alloc (.cells p.row 32)).alloc (.cells ar 32)) w.heap.size p∧ap ((w.alloc (.cells p.row 32)).alloc (.cells ar 32)) b0 p∧Below w.heap.size w ((w.alloc (.cells p.row 32)).alloc (.cells ar 32))∧((w.alloc (.cells p.row 32)).alloc (.cells ar 32)).heap[w.heap.size+1]? =some (.cells ar 32 (0,0))):=by
  have b1:Below w.heap.size w ((w.alloc (.cells p.row 32)).alloc (.cells ar 32)):=((Kp _ _).alloc (Ki _) _).alloc (by simp) _;exact ⟨(PU (by simp)).trans (Kj _ _),h.below b1,b1,heap_alloc2_new _ _ _⟩
 have fl:Hid (p.Fit∧(∀ x∈p.L8,x.dX)∧p.pure.Small∧(Lit.int .i64 id).wf=true):=⟨dV qY,fun x hx=>(cY qY hx).1,qY,hwf⟩
 have hpl:p.ae.length≤1048576:=fl.I.1.short.ae;have pd: ∀ g∈p.Mc,g < w.heap.size:=fun g hg=>(h.lt g hg).2
 clear h qY hwf;obtain ⟨m0,m1,m2,m3,m4,m5,m6,m7⟩:=HB.I.1.cells;unfold af.cells
 go_enter Tryz.func43,Tryz.ntmps43
 go_wp2_with fail;generalize (w.alloc (.cells p.row 32)).alloc (.cells ar 32)=W at *;clear m0 m1 m2 m3 m4 m5 m6 m7;refine (fR p W fl.I.1 fl.I.2.1 HB.I.2.1.at).mono ?_;rintro e W1 ⟨q,rfl,hown,gn,hb1⟩;have hb2:Below W1.heap.size W1 (W1.alloc (.cells q.row 32)):=(Kp _ _).alloc (Ki _) _;have hlt:w.heap.size+1 < W.heap.size:=(J2.1 HB.I.2.2.2).1;have hb3:Below W.heap.size W (W1.alloc (.cells q.row 32)):=hb1.trans (hb2.mono hb1.size);have hq1: ∀ g∈q.Mc,g < W1.heap.size:=fun g hg=>(hown.lt g hg).2
 have hql:q.ae.length≤1048576:=by have e1:=congrArg (fun z=>z.ae.length) gn; simp only [af.pure,List.length_map] at e1; omega
 have HQ:Hid (av (W1.alloc (.cells q.row 32)) W1.heap.size q∧ap (W1.alloc (.cells q.row 32)) W.heap.size q∧q.pure=p.pure∧(∀ g∈q.Mc,g < W1.heap.size)∧W.heap.size≤W1.heap.size∧w.heap.size+1 < W.heap.size∧W1.heap.size < (W1.alloc (.cells q.row 32)).heap.size):=⟨Kj _ _,hown.below hb2,gn,hq1,hb1.size,hlt,by simp⟩
 replace HB:Hid (av (W1.alloc (.cells q.row 32)) w.heap.size p∧ap (W1.alloc (.cells q.row 32)) b0 p∧Below w.heap.size w (W1.alloc (.cells q.row 32))∧(W1.alloc (.cells q.row 32)).heap[w.heap.size+1]? =some (.cells ar 32 (0,0))):=⟨HB.I.1.below hb3,HB.I.2.1.below hb3,HB.I.2.2.1.trans (hb3.mono HB.I.2.2.1.size),(hb3.block _ hlt).trans HB.I.2.2.2⟩
 have Au:Hid (∀ g∈p.Mc,g < w.heap.size):=fun g hg=>pd g hg
 clear hown gn hb1 hb2 hb3 hq1 hlt pd;have En:Hid (fy bm 144 #[.int .i64 id,.int .i64 Me,.slice none 0 0] (W1.alloc (.cells q.row 32)) (((W1.alloc (.cells q.row 32)).alloc (.cells #[] 144)).alloc (.cells #[.int .i64 id,.int .i64 Me,.slice none 0 0] 144)) [] (some ⟨(W1.alloc (.cells q.row 32)).heap.size,0,none⟩) 0):=fy.start;have Hw:(W1.alloc (.cells q.row 32)).heap.size=W1.heap.size+1:=by simp
 have HW:Hid ((W1.alloc (.cells q.row 32)).heap.size=W1.heap.size+1):=Hw;clear Hw;unfold af.cells;go_wp2_with fail;generalize W1.alloc (.cells q.row 32)=W2 at *;generalize W1.heap.size=o at *
 go_loopw [9,11,12] (fun l d i wr=> ∃ (k:Nat) (dn:Bool) (acc:List au) (a:Option Addr) (c:Nat),k≤q.ae.length∧i= .int .i64 k∧d= .bool dn∧l= .slice a acc.length c∧Hid (fy bm 144 #[.int .i64 id,.int .i64 Me,.slice none 0 0] W2 wr acc a c∧gY (fun y:au=>y.id) (⟨⟨id,Me,[]⟩,none,0⟩:au) q.ae k dn acc)) (fun _ _ i _=>q.ae.length - (Go.RowKit.intOf i).toNat)
 case atStart=>exact ⟨0,false,[],some ⟨W2.heap.size,0,none⟩,0,Ky _,rfl,rfl,by rw [HW.I]; rfl,⟨En.I,gY.start _ _⟩⟩
 case round=>
  obtain ⟨k,dn,acc,a,c,hk,rfl,rfl,rfl,HA⟩:=hrel;have i0:(0:Int)≤(k:Int):=by omega
  have hbr:=HA.I.1.cd;have hal:=HA.I.2.le;have mo:wr.cell? ⟨o,6,none⟩=some (.slice q.am q.ae.length q.aG):=(HQ.I.1.below hbr).cells.2.2.2.2.2.2.1;by_cases hlt:k < q.ae.length
  ·have i1:(k:Int) < (q.ae.length:Int):=by omega
   obtain ⟨y,hy⟩: ∃ y,q.ae[k]? =some y:=⟨_,Kz hlt⟩
   have HY:Hid (q.ae[k]? =some y):=hy;obtain ⟨g,ha,hat⟩:=iA (HQ.I.2.1.below hbr).at.2.2.2.2.1 hy;rw [ha] at mo;obtain ⟨d0,d1,d2⟩:=hat;have HG:Hid (q.am=some ⟨g,0,none⟩):=ha;clear ha hy;obtain ⟨a5,c5,w5,hap,rL⟩:=HA.I.1.add 29 40 (P:=J3) Qt kh rfl (by decide) (by decide) y #[.int .i64 y.id,.int .i64 y.max,.slice y.ak y.Ma.length y.aq] rfl nz (by omega);have F5:Hid (fy bm 144 #[.int .i64 id,.int .i64 Me,.slice none 0 0] W2 w5 (acc ++ [y]) a5 c5):=rL;clear rL;cases dn;rotate_left
   ·go_wp2_with (at_builtin; first | (refine br _ rfl _ _ 29 rfl _ _ _ _ rfl rfl hap ?_; clear hap))
    go_round
    case rel=>exact ⟨k+1,true,acc ++ [y],a5,c5,by omega,by go_num,rfl,by simp,⟨F5.I,HA.I.2.on HY.I⟩⟩
    case measure=>simp [Go.RowKit.intOf]; omega
   by_cases hc:id < y.id;rotate_left
   ·have HC:Hid (¬ id < y.id):=hc
    go_wp2_with (at_builtin; first | (refine br _ rfl _ _ 29 rfl _ _ _ _ rfl rfl hap ?_; clear hap))
    go_round
    case rel=>exact ⟨k+1,false,acc ++ [y],a5,c5,by omega,by go_num,rfl,by simp,⟨F5.I,HA.I.2.past HY.I HC.I⟩⟩
    case measure=>simp [Go.RowKit.intOf]; omega
   clear hap F5 a5 c5 w5;have HC:Hid (id < y.id):=hc;obtain ⟨a5,c5,w5,hap,rL⟩:=HA.I.1.add 29 40 (P:=J3) Qt kh rfl (by decide) (by decide) (⟨⟨id,Me,[]⟩,none,0⟩:au) #[.int .i64 id,.int .i64 Me,.slice none 0 0] rfl nz (by omega);obtain ⟨a7,c7,w7,gT,mI⟩:=rL.add 29 40 (P:=J3) Qt kh rfl (by decide) (by decide) y #[.int .i64 y.id,.int .i64 y.max,.slice y.ak y.Ma.length y.aq] rfl nz (by simp; omega);rw [Lf] at gT;simp only [Lg,K4,Nat.zero_add] at gT;have HL7:Hid (fy bm 144 #[.int .i64 id,.int .i64 Me,.slice none 0 0] W2 w7 (acc ++ [(⟨⟨id,Me,[]⟩,none,0⟩:au)] ++ [y]) a7 c7):=mI;have mo5:w5.cell? ⟨o,6,none⟩=some (.slice q.am q.ae.length q.aG):=(HQ.I.1.below rL.cd).cells.2.2.2.2.2.2.1;obtain ⟨g2,ha2,g8⟩:=iA (HQ.I.2.1.below rL.cd).at.2.2.2.2.1 HY.I;rw [HG.I] at ha2 mo5;cases ha2;obtain ⟨e0,e1,e2⟩:=g8;obtain ⟨x0,x1,x2⟩:=ia (x:=(⟨⟨id,Me,[]⟩,none,0⟩:au)) (X:=o+1+1) (W:=wr) (by rw [← HW.I]; exact HA.I.1.box);clear rL mI;simp only [K4] at *;go_wp2_with (at_builtin; first | (refine br _ rfl _ _ 29 rfl _ _ _ _ rfl rfl hap ?_; clear hap) | (refine br _ rfl _ _ 29 rfl _ _ _ _ rfl rfl gT ?_; clear gT))
   go_round
   case rel=>exact ⟨k+1,true,acc ++ [(⟨⟨id,Me,[]⟩,none,0⟩:au)] ++ [y],a7,c7,by omega,by go_num,rfl,by simp,⟨HL7.I,HA.I.2.here HY.I HC.I⟩⟩
   case measure=>simp [Go.RowKit.intOf]; omega
  have i1: ¬ (k:Int) < (q.ae.length:Int):=by omega
  cases dn
  ·obtain ⟨a9,c9,w9,hap,Jy⟩:=HA.I.1.add 29 40 (P:=J3) Qt kh rfl (by decide) (by decide) (⟨⟨id,Me,[]⟩,none,0⟩:au) #[.int .i64 id,.int .i64 Me,.slice none 0 0] rfl nz (by omega)
   have HR:Hid (fy bm 144 #[.int .i64 id,.int .i64 Me,.slice none 0 0] W2 w9 (acc ++ [(⟨⟨id,Me,[]⟩,none,0⟩:au)]) a9 c9∧acc ++ [(⟨⟨id,Me,[]⟩,none,0⟩:au)] =bY (fun y:au=>y.id) (⟨⟨id,Me,[]⟩,none,0⟩:au) q.ae∧(acc ++ [(⟨⟨id,Me,[]⟩,none,0⟩:au)]).length=acc.length+1):=⟨Jy,HA.I.2.last hlt,by simp⟩
   obtain ⟨x0,x1,x2⟩:=ia (x:=(⟨⟨id,Me,[]⟩,none,0⟩:au)) (X:=o+1+1) (W:=wr) (by rw [← HW.I]; exact HA.I.1.box);simp only [K4] at x0 x1 x2;clear Jy;have eX:Hid (_):=xN HB.I HQ.I Au.I HR.I.1 HR.I.2.1 HR.I.2.2 rfl (fun g hg=>by cases hg) (Ke _ _ _ _);have Mb:=fi p ({ q with ae:=(acc ++ [(⟨⟨id,Me,[]⟩,none,0⟩:au)]),am:=a9,aG:=c9 } :af) (w9.setCell ⟨o,6,none⟩ (.slice a9 (acc.length+1) c9)) ⟨fl.I.1,fl.I.2.1,eX.I.1.2.1.at⟩ (fun hr=>by
    have h5:aE.Small ({ q with ae:=(acc ++ [(⟨⟨id,Me,[]⟩,none,0⟩:au)]),am:=a9,aG:=c9 } :af).pure:=by rw [eX.I.2.2.2]; exact nX fl.I.2.2.1 hr ⟨fl.I.2.2.2,Ky _,(fun s hs=>by cases hs)⟩
    exact ⟨dV h5,fun x hx=>(cY h5 hx).1,eX.I.2.2.1.at⟩)
   obtain ⟨m0,m1,m2,m3,m4,m5,m6,m7⟩:=eX.I.1.1.cells;obtain ⟨k0,k1,k2,k3,k4,k5,k6,k7⟩:=eX.I.2.1.cells;obtain ⟨⟨u,co⟩,fo⟩:(∃ u,w9.cell? ⟨o,6,none⟩=some u)∧w9.frozen? ⟨o,6,none⟩=false:=⟨⟨_,(HQ.I.1.below HR.I.1.cd).cells.2.2.2.2.2.2.1⟩,Ko _ _ _ _ _ (HQ.I.1.below HR.I.1.cd)⟩
   unfold af.cells at Mb;have sR:=HR.I.2.2;simp only [sR] at Mb k0 k1 k2 k3 k4 k5 k6 k7;clear sR;go_wp2_with (at_builtin; first | (refine br _ rfl _ _ 29 rfl _ _ _ _ rfl rfl hap ?_; clear hap));refine Mb.mono ?_;clear Mb m0 m1 m2 m3 m4 m5 m6 m7 k0 k1 k2 k3 k4 k5 k6 k7;rintro e ow ⟨gy,hok⟩;have hq:=HQ.I.2.2.2.2;have HZ:Hid (Below w.heap.size w ow∧ow.heap[w.heap.size+1]? =some (.cells ar 32 (0,0))∧ap ow W.heap.size ({ q with ae:=(acc ++ [(⟨⟨id,Me,[]⟩,none,0⟩:au)]),am:=a9,aG:=c9 } :af)∧w.heap.size+1 < W.heap.size):=⟨eX.I.1.2.2.1.trans (gy.mono eX.I.1.2.2.1.size),(gy.block _ (J2.1 eX.I.1.2.2.2).1).trans eX.I.1.2.2.2,eX.I.2.2.1.below gy,hq.2.1⟩
   clear gy hq;rw [eX.I.2.2.2] at hok;rcases hok with ⟨hok,rfl⟩ | ⟨hok,rfl⟩
   ·have HN:Hid (cB p.pure { p.pure with ae:=bY (·.id) (⟨id,Me,[]⟩:ci) p.pure.ae } =some { p.pure with ae:=bY (·.id) (⟨id,Me,[]⟩:ci) p.pure.ae }):=jS hok
    clear hok;go_wp2_with (refine ec 6 61 #[.int .i64 q.id,.int .i64 q.next,.slice q.aN q.L8.length q.aW,.slice q.bc q.aj.length q.bF,.slice q.ay q.L9.length q.aO,.slice q.ax q.ag.length q.aP,.slice a9 (acc.length+1) c9,.slice q.aK q.ai.length q.aV] HZ.I.2.1 ?_);refine mG RO (.bool true) HZ.I.2.1 ?_;have hl:=HZ.I.2.2.2;rw [HN.I];refine ⟨({ q with ae:=(acc ++ [(⟨⟨id,Me,[]⟩,none,0⟩:au)]),am:=a9,aG:=c9 } :af),by unfold af.cells; simp only [HR.I.2.2]; rfl,(HZ.I.2.2.1.lower (by omega)).same fun g hg=>KH _ _ _ _ (by have:=(HZ.I.2.2.1.lt g hg).1; omega),eX.I.2.2.2,below_setRow HZ.I.1 (by omega) _⟩
   ·have HN:Hid (cB p.pure { p.pure with ae:=bY (·.id) (⟨id,Me,[]⟩:ci) p.pure.ae } =none):=jh hok
    clear hok;go_wp2_with (refine ec 6 61 ar HZ.I.2.1 ?_);refine mG RO (.bool false) HZ.I.2.1 ?_;exact ca HN.I (below_setRow HZ.I.1 (by omega) _)
  ·have HR:Hid (fy bm 144 #[.int .i64 id,.int .i64 Me,.slice none 0 0] W2 wr acc a c∧acc=bY (fun y:au=>y.id) (⟨⟨id,Me,[]⟩,none,0⟩:au) q.ae∧acc.length=acc.length):=⟨HA.I.1,HA.I.2.done hlt,rfl⟩
   have eX:Hid (_):=xN HB.I HQ.I Au.I HR.I.1 HR.I.2.1 HR.I.2.2 rfl (fun g hg=>by cases hg) (Ke _ _ _ _);have Mb:=fi p ({ q with ae:=acc,am:=a,aG:=c } :af) (wr.setCell ⟨o,6,none⟩ (.slice a acc.length c)) ⟨fl.I.1,fl.I.2.1,eX.I.1.2.1.at⟩ (fun hr=>by
    have h5:aE.Small ({ q with ae:=acc,am:=a,aG:=c } :af).pure:=by rw [eX.I.2.2.2]; exact nX fl.I.2.2.1 hr ⟨fl.I.2.2.2,Ky _,(fun s hs=>by cases hs)⟩
    exact ⟨dV h5,fun x hx=>(cY h5 hx).1,eX.I.2.2.1.at⟩)
   obtain ⟨m0,m1,m2,m3,m4,m5,m6,m7⟩:=eX.I.1.1.cells;obtain ⟨k0,k1,k2,k3,k4,k5,k6,k7⟩:=eX.I.2.1.cells;obtain ⟨⟨u,co⟩,fo⟩:(∃ u,wr.cell? ⟨o,6,none⟩=some u)∧wr.frozen? ⟨o,6,none⟩=false:=⟨⟨_,(HQ.I.1.below HR.I.1.cd).cells.2.2.2.2.2.2.1⟩,Ko _ _ _ _ _ (HQ.I.1.below HR.I.1.cd)⟩
   unfold af.cells at Mb;simp only at Mb k0 k1 k2 k3 k4 k5 k6 k7;go_wp2_with fail;refine Mb.mono ?_;clear Mb m0 m1 m2 m3 m4 m5 m6 m7 k0 k1 k2 k3 k4 k5 k6 k7;rintro e ow ⟨gy,hok⟩;have hq:=HQ.I.2.2.2.2;have HZ:Hid (Below w.heap.size w ow∧ow.heap[w.heap.size+1]? =some (.cells ar 32 (0,0))∧ap ow W.heap.size ({ q with ae:=acc,am:=a,aG:=c } :af)∧w.heap.size+1 < W.heap.size):=⟨eX.I.1.2.2.1.trans (gy.mono eX.I.1.2.2.1.size),(gy.block _ (J2.1 eX.I.1.2.2.2).1).trans eX.I.1.2.2.2,eX.I.2.2.1.below gy,hq.2.1⟩
   clear gy hq;rw [eX.I.2.2.2] at hok;rcases hok with ⟨hok,rfl⟩ | ⟨hok,rfl⟩
   ·have HN:Hid (cB p.pure { p.pure with ae:=bY (·.id) (⟨id,Me,[]⟩:ci) p.pure.ae } =some { p.pure with ae:=bY (·.id) (⟨id,Me,[]⟩:ci) p.pure.ae }):=jS hok
    clear hok;go_wp2_with (refine ec 6 61 #[.int .i64 q.id,.int .i64 q.next,.slice q.aN q.L8.length q.aW,.slice q.bc q.aj.length q.bF,.slice q.ay q.L9.length q.aO,.slice q.ax q.ag.length q.aP,.slice a acc.length c,.slice q.aK q.ai.length q.aV] HZ.I.2.1 ?_);refine mG RO (.bool true) HZ.I.2.1 ?_;have hl:=HZ.I.2.2.2;rw [HN.I];refine ⟨({ q with ae:=acc,am:=a,aG:=c } :af),by rfl,(HZ.I.2.2.1.lower (by omega)).same fun g hg=>KH _ _ _ _ (by have:=(HZ.I.2.2.1.lt g hg).1; omega),eX.I.2.2.2,below_setRow HZ.I.1 (by omega) _⟩
   ·have HN:Hid (cB p.pure { p.pure with ae:=bY (·.id) (⟨id,Me,[]⟩:ci) p.pure.ae } =none):=jh hok
    clear hok;go_wp2_with (refine ec 6 61 ar HZ.I.2.1 ?_);refine mG RO (.bool false) HZ.I.2.1 ?_;exact ca HN.I (below_setRow HZ.I.1 (by omega) _)
end
theorem dv {o:dN} (h:kc o=true):(1≤o.1∧o.1≤17)∧(¬ o.1=17→1≤o.2.1∧o.2.1≤1000)∧cv o.2.2.1 (-1) 1000=true∧bw o.2.2.2=true∧(¬ o.1=8→ ¬ o.1=10→ ¬ o.1=13→bI o.2.2.2=true):=by
 unfold kc mQ at h
 split at h
 ·simp only [J7,decide_eq_true_eq] at h
  have h1:=bz.1 h.1.1;exact ⟨by omega,fun _=>h1,by rw [h.1.2]; rfl,by rw [empty_eq h.2]; rfl,fun _ _ _=>h.2⟩
 ·split at h
  ·simp only [J7] at h
   have h1:=bz.1 h.1.1;exact ⟨by omega,fun _=>h1,h.1.2,by rw [empty_eq h.2]; rfl,fun _ _ _=>h.2⟩
  ·split at h
   ·simp only [J7] at h
    have h1:=bz.1 h.1.1;exact ⟨by omega,fun _=>h1,h.1.2,h.2,fun e _ _=>by omega⟩
   ·split at h
    ·simp only [J7,decide_eq_true_eq] at h
     have h1:=bz.1 h.1.1;exact ⟨by omega,fun _=>h1,by rw [h.1.2]; rfl,h.2,fun _ e1 e2=>by omega⟩
    ·split at h
     ·simp only [J7,decide_eq_true_eq] at h
      exact ⟨by omega,fun e=>by omega,by rw [h.1.2]; rfl,by rw [empty_eq h.2]; rfl,fun _ _ _=>h.2⟩
     ·cases h
theorem n7 (n:Int):n≤n∧n≤n+7:=by omega
def sS (p q:aE):Prop:=aQ q∧p.next≤q.next∧q.next≤p.next+7
section
variable {p:aE} {id now:Int} {o:dN}
theorem cP {code:Int} {q:aE} (h:aQ q) (hu:Up id q) (hc:cv code 0 3=true) (hn:p.next≤q.next∧q.next≤p.next+7):sS p (bu code id q):=⟨D6 h hu hc,hn⟩
theorem B8 {st:Int} {q:aE} (h:aQ q) (hu:xr id q) (hq:q.next=p.next) (hn:p.next+1≤1000000000) (eu:0≤now∧now≤1000000000) (hm:cv o.2.2.1 (-1) 1000=true)
  (hs:st=5∧bw o.2.2.2=true∨(st=3∨st=4∨st=6∨st=7)∧bI o.2.2.2=true) (hh:hasB q st o.2.1=true):sS p (mX st o now id q):=by
 have h1:=IT (p:=q) (id:=id) (st:=st) (now:=now) (o:=o);exact ⟨Ha h hu (by omega) eu hm hs hh,by omega,by omega⟩
theorem pw {s:bD} (h:aQ p) (hf:cg (·.id) o.2.1 p.aj=some s):hasB p 3 o.2.1=true∧0≤s.n∧s.n≤s.max:=by
 refine ⟨ul hf,?_⟩;have h1:=(cK h.aj s (ks hf).1).2;unfold gw at h1;simp only [J7] at h1;exact bz.1 h1.2
theorem ji {b:ci} (h:aQ p) (hf:cg (·.id) o.2.1 p.ae=some b):hasB p 5 o.2.1=true∧hasB p 6 o.2.1=true∧(b.Ma.length:Int)≤b.max∧ ∀ t∈b.Ma,bw t=true:=by
 refine ⟨ul hf,ul hf,?_⟩;have h1:=(cK h.ae b (ks hf).1).2;unfold ct at h1;simp only [J7] at h1;exact lv.1 h1.2
theorem nB {q:dS} (h:aQ p) (hf:cg (·.id) o.2.1 p.ai=some q):1≤q.max∧(q.Ma.length:Int)≤q.max∧ ∀ t∈q.Ma,bw t=true:=by
 have h1:=(cK h.ai q (ks hf).1).2;unfold dj at h1;simp only [J7] at h1;exact ⟨(bz.1 h1.1.1).1,lv.1 h1.2⟩
theorem sX {b:az} (h:aQ p) (hf:cg (·.id) o.2.1 p.ag=some b):hasB p 7 o.2.1=true∧bw b.text=true:=by
 refine ⟨ul hf,?_⟩;have h1:=(cK h.ag b (ks hf).1).2;unfold cU at h1;simp only [J7] at h1;exact h1.1
theorem CO (h:aQ p) (hu:xr id p) (hn:p.next≤999999990) (ho:kc o=true) (hk:o.1=3) (eu:0≤now∧now≤1000000000):sS p (mh o now id p):=by
 obtain ⟨f0,f1,f2,f3,f4⟩:=dv ho;unfold mh
 split
 ·exact cP h hu.up rfl (by omega)
 ·rename_i s hs
  obtain ⟨k1,k2,k3⟩:=pw h hs
  split
  ·exact B8 h hu rfl (by omega) eu f2 (.inr ⟨.inl rfl,f4 (by omega) (by omega) (by omega)⟩) k1
  ·refine cP (mx h fun y hy hk=> ?_) hu.up rfl (n7 p.next)
   rw [only h.aj hs hy hk]; omega
theorem yH (h:aQ p) (hu:xr id p) (hn:p.next≤999999990):sS p (gJ o id p):=by
 unfold gJ
 split
 ·exact cP h hu.up rfl (by omega)
 ·rename_i s hs
  obtain ⟨k1,k2,k3⟩:=pw h hs
  split
  ·rename_i y hy
   obtain ⟨m1,m2,-⟩:=ft hy;have h3:=mU p.next y;exact cP (i9 h m1 (by omega) (.inl rfl) (by omega)) (hu.up.Mg m1 (by omega) fun _=>rfl) rfl (by show p.next≤gf p.next y∧gf p.next y≤p.next+7; omega)
  ·split
   ·exact cP h hu.up rfl (by omega)
   ·refine cP (mx h fun y hy hk=> ?_) hu.up rfl (n7 p.next)
    rw [only h.aj hs hy hk]; omega
theorem zn (h:aQ p) (hu:xr id p) (hn:p.next≤999999990) (ho:kc o=true) (hk:o.1=5∨o.1=6∨o.1=7) (eu:0≤now∧now≤1000000000):sS p (dE o now id p):=by
 obtain ⟨f0,f1,f2,f3,f4⟩:=dv ho;unfold dE
 split
 ·exact cP h hu.up rfl (by omega)
 ·rename_i e he
  split
  ·have h1:=pP (on:=o.2.1) (f:=fun y=>y) (st:=4) (by decide) (.inl rfl) (kw (k:=o.2.1) (b:=true) h) hn
   have h2:(gL o.2.1 true p).next=p.next:=rfl;exact cP h1.1 (Up.ff (p:=gL o.2.1 true p) hu.up (by decide) fun _=>rfl) rfl (by omega)
  ·split
   ·exact cP (kw h) hu.up rfl (n7 p.next)
   ·split
    ·exact cP h hu.up rfl (by omega)
    ·exact B8 h hu rfl (by omega) eu f2 (.inr ⟨.inr (.inl rfl),f4 (by omega) (by omega) (by omega)⟩) (ul he)
theorem Dg (h:aQ p) (hu:xr id p) (hn:p.next≤999999990) (ho:kc o=true) (eu:0≤now∧now≤1000000000):sS p (lc o now id p):=by
 obtain ⟨f0,f1,f2,f3,f4⟩:=dv ho;unfold lc
 split
 ·exact cP h hu.up rfl (by omega)
 ·rename_i b hb
  obtain ⟨k1,k2,k3,k4⟩:=ji h hb
  split
  ·rename_i y hy
   obtain ⟨m1,m2,-⟩:=ft hy;have h3:=mU p.next y;exact cP (i9 h m1 (by omega) (.inr ⟨_,f3,rfl⟩) (by omega)) (hu.up.Mg m1 (by omega) fun _=>rfl) rfl (by show p.next≤gf p.next y∧gf p.next y≤p.next+7; omega)
  ·split
   ·exact B8 h hu rfl (by omega) eu f2 (.inl ⟨rfl,f3⟩) k1
   ·refine cP (gN h (fun y hy hk=> ?_) fun t ht=> ?_) hu.up rfl (n7 p.next)
    ·rw [only h.ae hb hy hk,Lf]; simp only [Lg,K4]; omega
    ·rcases Kg.1 ht with ht | ht
     ·exact k4 t ht
     ·simp only [Kt,Ku,or_false] at ht; rw [ht]; exact f3
theorem Dd (h:aQ p) (hu:xr id p) (hn:p.next≤999999990) (ho:kc o=true) (hk:o.1=9) (eu:0≤now∧now≤1000000000):sS p (ka o now id p):=by
 obtain ⟨f0,f1,f2,f3,f4⟩:=dv ho;unfold ka
 split
 ·exact cP h hu.up rfl (by omega)
 ·rename_i b hb
  obtain ⟨k1,k2,k3,k4⟩:=ji h hb
  split
  ·exact B8 (iQ h jX) hu.got rfl (by omega) eu f2 (.inr ⟨.inr (.inr (.inl rfl)),f4 (by omega) (by omega) (by omega)⟩) k2
  ·rename_i t r hr
   rw [hr] at k3 k4;simp only [Lg] at k3;have hg:aQ (ez t id p):=iQ h (k4 t (by simp));have hg':xr id (ez t id p):=hu.got;have hgb:cg (·.id) o.2.1 (ez t id p).ae=some b:=hb
   split
   ·refine cP (gN hg (fun y hy hk=> ?_) fun t ht=>k4 t (by simp [ht])) hg'.up rfl (n7 p.next)
    rw [only hg.ae hgb hy hk]; omega
   ·rename_i y hy
    obtain ⟨m1,m2,-⟩:=ft hy;have h3:=mU p.next y;have hh:bw y.held=true:=by
     have h5:=iF (hg.proc m1).2.1;unfold jY at h5;simp only [J7] at h5;exact h5.1.1.2
    have hb2:aQ (cV o.2.1 (r ++ [y.held]) (ez t id p)):=gN hg (fun z hz hk=>by rw [only hg.ae hgb hz hk,Lf]; simp only [Lg,K4]; omega) fun s hs=>by
     rcases Kg.1 hs with hs | hs
     ·exact k4 s (by simp [hs])
     ·simp only [Kt,Ku,or_false] at hs; rw [hs]; exact hh
    exact cP (i9 hb2 m1 (by omega) (.inl rfl) (by show p.next+1≤_; omega)) (Up.Mg (p:=cV o.2.1 (r ++ [y.held]) (ez t id p)) hg'.up m1 (by omega) fun _=>rfl) rfl (by show p.next≤gf p.next y∧gf p.next y≤p.next+7; omega)
theorem yv (h:aQ p) (hu:xr id p) (hn:p.next≤999999990) (ho:kc o=true) (hk:o.1=10∨o.1=11∨o.1=12) (eu:0≤now∧now≤1000000000):sS p (dC o now id p):=by
 obtain ⟨f0,f1,f2,f3,f4⟩:=dv ho;unfold dC
 split
 ·exact cP h hu.up rfl (by omega)
 ·rename_i b hb
  obtain ⟨k1,k2⟩:=sX h hb
  split
  ·have h1:=pP (on:=o.2.1) (f:=lG o.2.2.2) (st:=7) (by decide) (.inr ⟨_,f3,rfl⟩) (kA (k:=o.2.1) (b:=true) h f3 (.inl rfl)) hn
   have h2:(ib o.2.1 true o.2.2.2 p).next=p.next:=rfl;exact cP h1.1 (Up.ff (p:=ib o.2.1 true o.2.2.2 p) hu.up (by decide) fun _=>rfl) rfl (by omega)
  ·split
   ·exact cP (kA h jX (.inr oB)) hu.up rfl (n7 p.next)
   ·split
    ·exact cP (iQ h k2) hu.got.up rfl (n7 p.next)
    ·exact B8 (iQ h k2) hu.got rfl (by omega) eu f2 (.inr ⟨.inr (.inr (.inr rfl)),f4 (by omega) (by omega) (by omega)⟩) k1
theorem By (h:aQ p) (hu:xr id p) (ho:kc o=true):sS p (ig o id p):=by
 obtain ⟨f0,f1,f2,f3,f4⟩:=dv ho;unfold ig
 split
 ·exact cP h hu.up rfl (by omega)
 ·rename_i q hq
  obtain ⟨k1,k2,k3⟩:=nB h hq
  split
  ·exact cP h hu.up rfl (by omega)
  ·split
   ·refine cP (jj h (fun y hy hk=> ?_) fun t ht=> ?_) hu.up rfl (n7 p.next)
    ·rw [only h.ai hq hy hk]; exact k1
    ·simp only [Kt,Ku,or_false] at ht; rw [ht]; exact f3
   ·split
    ·exact cP h hu.up rfl (by omega)
    ·refine cP (jj h (fun y hy hk=> ?_) fun t ht=> ?_) hu.up rfl (n7 p.next)
     ·rw [only h.ai hq hy hk,Lf]; simp only [Lg,K4]; omega
     ·rcases Kg.1 ht with ht | ht
      ·exact k3 t ht
      ·simp only [Kt,Ku,or_false] at ht; rw [ht]; exact f3
theorem zO (h:aQ p) (hu:xr id p):sS p (gC o id p):=by
 unfold gC
 split
 ·exact cP h hu.up rfl (by omega)
 ·rename_i q hq
  obtain ⟨k1,k2,k3⟩:=nB h hq
  split
  ·exact cP h hu.up rfl (by omega)
  ·split
   ·exact cP (iQ h jX) hu.got.up rfl (n7 p.next)
   ·rename_i t r hr
    rw [hr] at k2 k3;simp only [Lg] at k2;have hg:aQ (ez t id p):=iQ h (k3 t (by simp));have hgb:cg (·.id) o.2.1 (ez t id p).ai=some q:=hq
    split
    ·refine cP (jj hg (fun y hy hk=> ?_) fun t ht=>k3 t (by simp [ht])) hu.got.up rfl (n7 p.next)
     rw [only hg.ai hgb hy hk]; omega
    ·exact cP hg hu.got.up rfl (n7 p.next)
theorem AO (h:aQ p) (hu:xr id p) (hn:p.next≤999999990):sS p (jU o id p):=by
 have hnx:=bz.1 h.next;unfold jU
 split
 ·exact cP h hu.up rfl (by omega)
 ·rename_i y hy
  split
  ·rename_i h0
   obtain ⟨m1,m2⟩:=ks hy;have hne: ¬ o.2.1=id:=fun e=>by have:=hu.up y m1 (by omega); omega
   refine cP (h.ju (nx:=p.next+1) (f:=fun y=> { y with Md:=1,RU:=p.next }) (fun _=>rfl) ⟨by omega,by omega⟩ fun z hz hi=> ?_) (hu.up.other hne fun _=>rfl) rfl (by show p.next≤p.next+1∧p.next+1≤p.next+7; omega);have e:=only h.L8 hy hz hi;subst e;obtain ⟨-,q1,q2,q3⟩:=h.proc hz;have q4:=iF q1;rw [fG,J7] at q1;have q5:=q1.2;unfold bO at q5;rw [if_pos h0] at q5;simp only [J7,decide_eq_true_eq] at q5;obtain ⟨⟨⟨⟨⟨a1,a2⟩,a3⟩,a4⟩,a5⟩,a6⟩:=q5;have q6:jm z.prog=true:=by
    unfold jY at q4;simp only [J7] at q4;exact q4.1.1.1.2
   refine ⟨?_,?_,rfl,.inr (.inr rfl)⟩
   ·rw [fG,J7]
    refine ⟨q4,mr q6 rfl ⟨by show 0≤z.pc; omega,?_⟩ a2 a3 a4 a6⟩
    have:=lK q6
    show z.pc < z.prog.length
    omega
   ·unfold fF
    rw [Bool.or_eq_true];exact .inr (eB (by show 1≤p.next; omega) (by show p.next≤p.next+1 - 1; omega))
  ·exact cP h hu.up rfl (by omega)
theorem nG (h:aQ p) {k:Int} :aQ (ot k p):=by
 have hnx:=bz.1 h.next;refine h.ju (nx:=p.next) (f:=j7) (fun _=>rfl) ⟨LJ _,hnx.2⟩ fun z hz hi=> ?_
 exact ⟨vQ (iF (h.proc hz).2.1),rfl,rfl,.inr (.inl rfl)⟩
theorem Dr (h:aQ p) (hu:xr id p):sS p (lg o id p):=by
 unfold lg
 split
 ·exact cP h hu.up rfl (by omega)
 ·split
  ·exact cP h hu.up rfl (by omega)
  ·split
   ·exact ⟨nG h,n7 p.next⟩
   ·rename_i hne
    exact cP (nG h) (hu.up.other hne fun _=>rfl) rfl (n7 p.next)
end
theorem fK {P:aE→Prop} {c:Prop} [Decidable c] {a b:aE} (h1:c→P a) (h2: ¬ c→P b):P (if c then a else b):=by
 split
 ·exact h1 ‹_›
 ·exact h2 ‹_›
theorem AW {p:aE} {x:aD} {now:Int} (h:aQ p) (hx:x∈p.L8) (hs:x.Md=1) (hn:p.next≤999999990) (eu:0≤now∧now≤1000000000):kc (opAt x)=true∧sS p (lX now x (opAt x) p):=by
 obtain ⟨-,k1,k2,k3⟩:=h.proc hx;have hnx:=bz.1 h.next;have hop:=iT k1 (by rw [hs]; decide);have hb:=iF k1;have hpl:jm x.prog=true:=by
  unfold jY at hb;simp only [J7] at hb;exact hb.1.1.1.2
 have hlt:x.pc.toNat < x.prog.length:=by omega
 have hoa:opAt x=x.prog[x.pc.toNat] :=by unfold opAt; rw [Kz hlt]; rfl
 have ho:kc (opAt x)=true:=by rw [hoa]; exact yG hpl (Kz hlt)
 refine ⟨ho,?_⟩;have hst:dU x=true∧jJ x=true∧x.Mg=0∧x.on=0∧bI x.held=true:=by
  rw [fG,J7] at k1;have h3:=k1.2;unfold bO at h3;rw [if_neg (by omega),if_pos hs] at h3;simp only [J7,decide_eq_true_eq] at h3;exact ⟨h3.1.1.1.1,h3.1.1.1.2,h3.1.1.2,h3.1.2,h3.2⟩
 have hone: ∀ y∈p.L8,y.id=x.id→y=x:=fun y hy e=>by
  have h5:=h.kW;rw [List.pairwise_iff_getElem] at h5;obtain ⟨i,hi1,rfl⟩:=LK.1 hy;obtain ⟨j,DS,rfl⟩:=LK.1 hx;rcases Nat.lt_trichotomy i j with hlt | heq | hgt
  ·have:=h5 i j hi1 DS hlt; omega
  ·subst heq; rfl
  ·have:=h5 j i DS hi1 hgt; omega
 have hup:Up x.id p:=fun y hy e=>by rw [hone y hy e]; exact hs
 obtain ⟨f0,f1,f2,f3,f4⟩:=dv ho;have hl: ¬ (opAt x).1=1→xr x.id p:=fun hk y hy e=>by
  rw [hone y hy e];refine ⟨hs,?_⟩;have h4:=hst.2.1;unfold jJ at h4;rw [if_neg hk] at h4;exact of_decide_eq_true h4
 unfold lX;refine fK (P:=sS p) (fun hk=> ?_) (fun hk1=> ?_)
 ·have h4:=hst.2.1
  unfold jJ at h4;rw [if_pos hk] at h4;simp only [J7,decide_eq_true_eq] at h4;have hN:=f1 (by omega);unfold GY;refine fK (P:=sS p) (fun _=> ?_) (fun hne=> ?_)
  ·exact cP h hup rfl (by omega)
  ·refine ⟨h.ju (nx:=p.next) (f:=fun y=> { y with left:=(if x.left=0 then (opAt x).2.1 else x.left) - 1 }) (fun _=>rfl) ⟨LJ _,hnx.2⟩ fun z hz hi=> ?_,n7 p.next⟩
   rw [hone z hz hi];refine ⟨?_,k2,k3,.inl rfl⟩;rw [fG,J7];refine ⟨hb,?_⟩;unfold bO
   show (if x.Md=0 then _ else if x.Md=1 then dU x && jJ { x with left:=(if x.left=0 then (opAt x).2.1 else x.left) - 1 } && decide (x.Mg=0) && decide (x.on=0) && bI x.held else _)=true
   have h5:jJ { x with left:=(if x.left=0 then (opAt x).2.1 else x.left) - 1 } =true:=by
    unfold jJ
    show (if (opAt x).1=1 then decide (0≤(if x.left=0 then (opAt x).2.1 else x.left) - 1) && decide ((if x.left=0 then (opAt x).2.1 else x.left) - 1 < (opAt x).2.1) else _)=true
    rw [if_pos hk];simp only [J7,decide_eq_true_eq]
    split <;> omega
   rw [if_neg (by omega),if_pos hs,h5,hst.1,hst.2.2.1,hst.2.2.2.1,hst.2.2.2.2]; rfl
 ·have hu:=hl hk1
  refine fK (P:=sS p) (fun hk=> ?_) (fun _=> ?_)
  ·have hN:=f1 (by omega)
   exact ⟨sO h hu (by omega) (.inl ⟨rfl,rfl,oB,eB (by omega) (by omega)⟩),by show p.next≤p.next+1; omega,by show p.next+1≤_; omega⟩
  ·refine fK (P:=sS p) (fun hk=> ?_) (fun _=> ?_)
   ·exact CO h hu hn ho hk eu
   ·refine fK (P:=sS p) (fun hk=> ?_) (fun _=> ?_)
    ·clear hk; exact yH h hu hn
    ·refine fK (P:=sS p) (fun hk=> ?_) (fun _=> ?_)
     ·exact zn h hu hn ho hk eu
     ·refine fK (P:=sS p) (fun hk=> ?_) (fun _=> ?_)
      ·exact Dg h hu hn ho eu
      ·refine fK (P:=sS p) (fun hk=> ?_) (fun _=> ?_)
       ·exact Dd h hu hn ho hk eu
       ·refine fK (P:=sS p) (fun hk=> ?_) (fun _=> ?_)
        ·exact yv h hu hn ho hk eu
        ·refine fK (P:=sS p) (fun hk=> ?_) (fun _=> ?_)
         ·exact By h hu ho
         ·refine fK (P:=sS p) (fun hk=> ?_) (fun _=> ?_)
          ·exact zO h hu
          ·refine fK (P:=sS p) (fun hk=> ?_) (fun _=> ?_)
           ·exact AO h hu hn
           ·refine fK (P:=sS p) (fun hk=> ?_) (fun _=> ?_)
            ·exact Dr h hu
            ·refine ⟨h.ju (nx:=p.next) (f:=fun y=> { y with pc:=0 }) (fun _=>rfl) ⟨LJ _,hnx.2⟩ fun z hz hi=> ?_,n7 p.next⟩
             rw [hone z hz hi];have h5:=hu x hx rfl;have h6:=lK hpl;refine ⟨?_,k2,k3,.inl rfl⟩;rw [fG,J7];exact ⟨hb,mr (x:= { x with pc:=0 }) hpl hs ⟨LJ _,by show (0:Int) < x.prog.length; omega⟩ h5.2 hst.2.2.1 hst.2.2.2.1 hst.2.2.2.2⟩
theorem DA {p:aE} {now:Int} (h:aQ p) (hn:p.next≤999999980) (eu:0≤now∧now≤1000000000):aQ (mS now p)∧p.next≤(mS now p).next∧(mS now p).next≤p.next+13:=by
 obtain ⟨h1,h2,h3⟩:=ru (now:=now) h (by omega);unfold mS
 split
 ·exact ⟨h1,h2,by omega⟩
 ·rename_i x hx
  obtain ⟨m1,m2,-⟩:=ft hx;obtain ⟨-,h4,h5,h6⟩:=AW (now:=now) h1 m1 m2 (by omega) eu;exact ⟨h4,by omega,by omega⟩
section
open Go.RowKit Go.Maps
attribute [local go_sem ↓] Kc Kd
def pF (nx code:Int) (x:ao):ao:=⟨iY nx code x.toaD,x.aY,x.bH⟩
abbrev yA (W w:World) (base gs:Nat) (z q:af):Prop:=av W w.heap.size z∧W.heap[w.heap.size+1]? =some (.cells ar 32 (0,0))∧ap W base q∧aI w W [gs] ∧Below base w W
theorem re {n:Nat} {x y:ao} {l:List ao} (hx:l[n]? =some x) (hy:y.aY=x.aY):(l.set n y).filterMap aR.bt=l.filterMap aR.bt:=by
 have hn:=(Lj.1 hx).1;have e:l[n] =x:=(Lj.1 hx).2;rw [List.set_eq_take_append_cons_drop,if_pos hn]
 conv=>rhs; rw [← List.take_append_drop n l,List.drop_eq_getElem_cons hn]
 simp only [List.filterMap_append,List.filterMap_cons,e];have hk:aR.bt y=aR.bt x:=by show (y.aY).map _=(x.aY).map _; rw [hy]
 rw [hk]
theorem Ad {n:Nat} {q:af} {x:ao} {code:Int} {g:Nat} (hx:q.L8[n]? =some x) (h:g∈({ q with L8:=q.L8.set n (fE code x) } :af).Mc):g∈q.Mc:=by
 unfold af.Mc at h ⊢;simp only [re hx (show (fE code x).aY=x.aY from rfl)] at h;exact h
theorem yZ {n:Nat} {q:af} {nx s:Int} {y:ao} {g:Nat} (hx:q.L8[n]? =some y) (h:g∈({ q with next:=nx,L8:=q.L8.set n { y with RU:=s } } :af).Mc):g∈q.Mc:=by
 unfold af.Mc at h ⊢;simp only [re hx (show ({ y with RU:=s } :ao).aY=y.aY from rfl)] at h;exact h
theorem vT (q:af) (n base:Nat) (x:ao) (code:Int) (w:World) (h:ap w base q) (hb:base≤w.heap.size) (hx:q.L8[n]? =some x) (hpc:0≤x.pc∧x.pc < x.prog.length) (hl:x.prog.length≤1048576) (hn:0≤q.next∧q.next≤1000000000):
  Calls J3 188 #[.agg q.cells,.int .i64 n,.int .i64 code] w fun e w'=> ∃ q2:af,e= .returned (.agg q2.cells)∧q2= { q with next:=gf q.next x.toaD,L8:=q.L8.set n (pF q.next code x) } ∧ap w' base q2∧Below base w w'∧aI w w' (blk q.aN):=by
 obtain ⟨gs,ha,-⟩:=cn h.at.1 hx;have hgs:=cf h.L8 (g:=gs) (by rw [ha]; simp [blk]);have hnl:n < q.L8.length:=(Lj.1 hx).1;obtain ⟨qi,qn,ps,pA,pC,ss,sA,sC,es,eA,eC,bs,bA,bC,fs,fA,fC,ts,tA,tC⟩:=q;simp only at ha;subst ha;obtain ⟨C,hC⟩: ∃ C:Array Value,C= #[.int .i64 qi,.int .i64 qn,.slice (some ⟨gs,0,none⟩) ps.length pC,.slice sA ss.length sC,.slice eA es.length eC,.slice bA bs.length bC,.slice fA fs.length fC,.slice tA ts.length tC] :=⟨_,rfl⟩
 obtain ⟨D,hD⟩: ∃ D:af,D=(⟨qi,qn,ps,some ⟨gs,0,none⟩,pC,ss,sA,sC,es,eA,eC,bs,bA,bC,fs,fA,fC,ts,tA,tC⟩:af):=⟨_,rfl⟩
 obtain ⟨A,hA⟩: ∃ A:World,A=(w.alloc (.cells C 32)).alloc (.cells ar 32):=⟨_,rfl⟩
 have b1:Below w.heap.size w A:=by rw [hA]; exact dT _ _ _
 have h2:=cZ w (.cells C 32) (.cells ar 32);have HC:Hid (ps[n]? =some x∧base≤gs∧gs < w.heap.size∧base≤w.heap.size∧n < ps.length):=⟨hx,hgs.1,hgs.2,hb,hnl⟩
 have PBK:Hid (∀ g∈D.Mc,g < w.heap.size):=fun g hg=>(h.lt g (hD ▸ hg)).2
 have HA:Hid (av A w.heap.size D∧A.heap[w.heap.size+1]? =some (.cells ar 32 (0,0))∧ap A base D∧Below w.heap.size w A):=by subst hA hD hC; exact ⟨h2.1,h2.2,h.below b1,b1⟩
 subst hA hD hC;have HN:Hid (0≤qn∧qn≤1000000000):=hn;have Mb:=ve _ n base x code _ HA.I.2.2.1 (by have:=HC.I.2.2.2.1; have:=b1.size; omega) hx hpc hl;have j0:(0:Int)≤(n:Int):=by omega
 have j1:(n:Int) < ((ps.set n (fE code x)).length:Int):=by have:n < ps.length:=hnl; rw [LI]; omega
 rw [LI] at j1;clear h hb hx hgs b1 h2 hnl hl hpc hn;unfold af.cells at Mb ⊢;simp only at Mb ⊢
 go_enter Tryz.func188,Tryz.ntmps188
 obtain ⟨m0,m1,m2,m3,m4,m5,m6,m7⟩:=HA.I.1.cells;go_wp2_with fail;clear m0 m1 m2 m3 m4 m5 m6 m7;refine Mb.mono ?_;clear Mb;rintro e w1 ⟨rfl,ho1,hb1,hk1⟩;have H1:Hid (yA w1 w base gs (⟨qi,qn,ps,some ⟨gs,0,none⟩,pC,ss,sA,sC,es,eA,eC,bs,bA,bC,fs,fA,fC,ts,tA,tC⟩:af) (⟨qi,qn,(ps.set n (fE code x)),some ⟨gs,0,none⟩,pC,ss,sA,sC,es,eA,eC,bs,bA,bC,fs,fA,fC,ts,tA,tC⟩:af)):=by
  have hc:=HC.I;have hk:aI w w1 [gs] :=(aI.dI HA.I.2.2.2).trans hk1;have l1:=(J2.1 HA.I.2.1).1;exact ⟨(hk1.same _ (by omega) (by simp [blk]; omega)).trans HA.I.1,(hk1.same _ (by omega) (by simp [blk]; omega)).trans HA.I.2.1,ho1,hk,(HA.I.2.2.2.mono hc.2.2.2.1).trans hb1⟩
 have PB1:Hid (∀ g∈(⟨qi,qn,(ps.set n (fE code x)),some ⟨gs,0,none⟩,pC,ss,sA,sC,es,eA,eC,bs,bA,bC,fs,fA,fC,ts,tA,tC⟩:af).Mc,g < w.heap.size):=fun g hg=>PBK.I g (Ad HC.I.1 hg)
 clear ho1 hb1 hk1 HA;have H2:Hid (yA (w1.setRow w.heap.size #[.int .i64 qi,.int .i64 qn,.slice (some ⟨gs,0,none⟩) ps.length pC,.slice sA ss.length sC,.slice eA es.length eC,.slice bA bs.length bC,.slice fA fs.length fC,.slice tA ts.length tC]) w base gs (⟨qi,qn,ps,some ⟨gs,0,none⟩,pC,ss,sA,sC,es,eA,eC,bs,bA,bC,fs,fA,fC,ts,tA,tC⟩:af) (⟨qi,qn,(ps.set n (fE code x)),some ⟨gs,0,none⟩,pC,ss,sA,sC,es,eA,eC,bs,bA,bC,fs,fA,fC,ts,tA,tC⟩:af)):=by
  have hc:=HC.I;exact ⟨KU _ _ _ _ _ _ H1.I.1,(KH _ _ _ _ (by omega)).trans H1.I.2.1,H1.I.2.2.1.same fun g hg=>KH _ _ _ _ (by have:=PB1.I g hg; omega),H1.I.2.2.2.1.more (below_setRow (Kp _ _) (by omega) _),below_setRow H1.I.2.2.2.2 (by omega) _⟩
 have hx1:(ps.set n (fE code x))[n]? =some (fE code x):=by rw [List.getElem?_set_self HC.I.2.2.2.2]
 have xi:Hid ((ps.set n (fE code x))[n]? =some (fE code x)):=hx1;obtain ⟨m0,m1,m2,m3,m4,m5,m6,m7⟩:=H2.I.1.cells;obtain ⟨d3⟩:World.cell? (w1.setRow w.heap.size #[.int .i64 qi,.int .i64 qn,.slice (some ⟨gs,0,none⟩) ps.length pC,.slice sA ss.length sC,.slice eA es.length eC,.slice bA bs.length bC,.slice fA fs.length fC,.slice tA ts.length tC]) ⟨gs,n * 12+3,none⟩=some (.int .i64 (fE code x).Md)∧True:=by
  obtain ⟨g,e,h5⟩:=cn H2.I.2.2.1.at.1 hx1;cases e;exact ⟨h5.2.2.2.1,trivial⟩
 by_cases hlen:x.pc+1=x.prog.length
 ·have e1:((fE code x).Md == 1)=false:=by show ((jT code x.toaD).Md == 1)=false; unfold jT; rw [if_pos hlen]; rfl
  have HE:Hid (gf qn x.toaD=qn∧pF qn code x=(fE code x)):=by show _∧_; unfold gf pF fE iY jT; rw [if_pos hlen,if_pos hlen,if_pos hlen]; exact ⟨rfl,rfl⟩
  clear hlen hx1;go_wp2_with (first | (refine ec 3 10 #[.int .i64 qi,.int .i64 qn,.slice (some ⟨gs,0,none⟩) ps.length pC,.slice sA ss.length sC,.slice eA es.length eC,.slice bA bs.length bC,.slice fA fs.length fC,.slice tA ts.length tC] H1.I.1 ?_) | (refine ec 6 21 #[.int .i64 qi,.int .i64 qn,.slice (some ⟨gs,0,none⟩) ps.length pC,.slice sA ss.length sC,.slice eA es.length eC,.slice bA bs.length bC,.slice fA fs.length fC,.slice tA ts.length tC] H2.I.2.1 ?_));refine gZ Tryz.results188 H2.I.2.1 ?_;rw [HE.I.1,HE.I.2];refine ⟨_,?_,rfl,H2.I.2.2.1.same fun g hg=>KH _ _ _ _ (by have:=PB1.I g hg; omega),below_setRow H2.I.2.2.2.2 (by have:=HC.I.2.2.2.1; omega) _,H2.I.2.2.2.1.more (below_setRow (Kp _ _) (by omega) _)⟩;simp only [LI]
 have e1:((fE code x).Md == 1)=true:=by show ((jT code x.toaD).Md == 1)=true; unfold jT; rw [if_neg hlen]; rfl
 have HE:Hid (gf qn x.toaD=qn+1∧pF qn code x= { (fE code x) with RU:=qn }):=by show _∧_; unfold gf pF fE iY jT; rw [if_neg hlen,if_neg hlen,if_neg hlen]; exact ⟨rfl,rfl⟩
 clear hlen;have Mb:=qG _ n base (fE code x) _ H2.I.2.2.1 (by have:=HC.I.2.2.2.1; have:=H2.I.2.2.2.1.size; omega) hx1 HN.I;unfold af.cells at Mb;simp only [LI] at Mb;clear hx1;go_wp2_with (refine ec 3 10 #[.int .i64 qi,.int .i64 qn,.slice (some ⟨gs,0,none⟩) ps.length pC,.slice sA ss.length sC,.slice eA es.length eC,.slice bA bs.length bC,.slice fA fs.length fC,.slice tA ts.length tC] H1.I.1 ?_);clear m0 m1 m2 m3 m4 m5 m6 m7 d3 e1;refine Mb.mono ?_;clear Mb;rintro e w3 ⟨q3,he,rfl,Bn,hb3,hk3⟩;simp only [LI] at he;subst he;have H3:Hid (yA w3 w base gs (⟨qi,qn,ps,some ⟨gs,0,none⟩,pC,ss,sA,sC,es,eA,eC,bs,bA,bC,fs,fA,fC,ts,tA,tC⟩:af) (⟨qi,(qn+1),((ps.set n (fE code x)).set n ({ (fE code x) with RU:=qn } :ao)),some ⟨gs,0,none⟩,pC,ss,sA,sC,es,eA,eC,bs,bA,bC,fs,fA,fC,ts,tA,tC⟩:af)):=by
  have hc:=HC.I;have l1:=(J2.1 H2.I.2.1).1;exact ⟨(hk3.same _ (by omega) (by simp [blk]; omega)).trans H2.I.1,(hk3.same _ (by omega) (by simp [blk]; omega)).trans H2.I.2.1,Bn,H2.I.2.2.2.1.trans hk3,H2.I.2.2.2.2.trans hb3⟩
 have PB3:Hid (∀ g∈(⟨qi,(qn+1),((ps.set n (fE code x)).set n ({ (fE code x) with RU:=qn } :ao)),some ⟨gs,0,none⟩,pC,ss,sA,sC,es,eA,eC,bs,bA,bC,fs,fA,fC,ts,tA,tC⟩:af).Mc,g < w.heap.size):=fun g hg=>PB1.I g (yZ (q:=(⟨qi,qn,(ps.set n (fE code x)),some ⟨gs,0,none⟩,pC,ss,sA,sC,es,eA,eC,bs,bA,bC,fs,fA,fC,ts,tA,tC⟩:af)) xi.I hg)
 clear Bn hb3 hk3 H1 H2;have H4:Hid (yA (w3.setRow w.heap.size #[.int .i64 qi,.int .i64 (qn+1),.slice (some ⟨gs,0,none⟩) ps.length pC,.slice sA ss.length sC,.slice eA es.length eC,.slice bA bs.length bC,.slice fA fs.length fC,.slice tA ts.length tC]) w base gs (⟨qi,(qn+1),ps,some ⟨gs,0,none⟩,pC,ss,sA,sC,es,eA,eC,bs,bA,bC,fs,fA,fC,ts,tA,tC⟩:af) (⟨qi,(qn+1),((ps.set n (fE code x)).set n ({ (fE code x) with RU:=qn } :ao)),some ⟨gs,0,none⟩,pC,ss,sA,sC,es,eA,eC,bs,bA,bC,fs,fA,fC,ts,tA,tC⟩:af)):=by
  have hc:=HC.I;exact ⟨KU _ _ _ _ _ _ H3.I.1,(KH _ _ _ _ (by omega)).trans H3.I.2.1,H3.I.2.2.1.same fun g hg=>KH _ _ _ _ (by have:=PB3.I g hg; omega),H3.I.2.2.2.1.more (below_setRow (Kp _ _) (by omega) _),below_setRow H3.I.2.2.2.2 (by omega) _⟩
 obtain ⟨m0,m1,m2,m3,m4,m5,m6,m7⟩:=H4.I.1.cells;go_wp2_with (first | (refine ec 3 20 #[.int .i64 qi,.int .i64 (qn+1),.slice (some ⟨gs,0,none⟩) ps.length pC,.slice sA ss.length sC,.slice eA es.length eC,.slice bA bs.length bC,.slice fA fs.length fC,.slice tA ts.length tC] H3.I.1 ?_) | (refine ec 6 21 #[.int .i64 qi,.int .i64 (qn+1),.slice (some ⟨gs,0,none⟩) ps.length pC,.slice sA ss.length sC,.slice eA es.length eC,.slice bA bs.length bC,.slice fA fs.length fC,.slice tA ts.length tC] H4.I.2.1 ?_));refine gZ Tryz.results188 H4.I.2.1 ?_;rw [HE.I.1,HE.I.2];refine ⟨_,?_,rfl,?_,below_setRow H4.I.2.2.2.2 (by have:=HC.I.2.2.2.1; omega) _,H4.I.2.2.2.1.more (below_setRow (Kp _ _) (by omega) _)⟩
 ·simp only [LI]
 ·have h5:=H4.I.2.2.1.same (w':=(w3.setRow w.heap.size #[.int .i64 qi,.int .i64 (qn+1),.slice (some ⟨gs,0,none⟩) ps.length pC,.slice sA ss.length sC,.slice eA es.length eC,.slice bA bs.length bC,.slice fA fs.length fC,.slice tA ts.length tC]).setRow (w.heap.size+1) #[.int .i64 qi,.int .i64 (qn+1),.slice (some ⟨gs,0,none⟩) ps.length pC,.slice sA ss.length sC,.slice eA es.length eC,.slice bA bs.length bC,.slice fA fs.length fC,.slice tA ts.length tC]) fun g hg=>KH _ _ _ _ (by have:=PB3.I g hg; omega)
  rw [List.set_set] at h5;exact h5
end
end Go.Proofs.YtkbcplnlehdjfaaGreat
