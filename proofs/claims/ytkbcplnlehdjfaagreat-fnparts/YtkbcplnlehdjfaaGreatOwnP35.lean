/- What the proof leans on, part 35. -/
import Derived.Test.YtkbcplnlehdjfaaGreatOwnP33
set_option maxRecDepth 100000
set_option maxHeartbeats 8000000
open Array renaming getElem?_eq_some_iff->J2
open Go renaming frozen_of_row->Ko,heap_alloc_new->Kj,setRow_other->KH,wp_at_succ->Kd,wp_at_zero->Kc
open Go.Proofs.Tryz renaming prog->J3,results28->RM,results46->RN,underlying25->Qs,underlying30->Qu
open Go.RowKit.Below renaming refl->Kp
open Go.World renaming ownsRow_nil->Ke
open List renaming getElem?_eq_getElem->Kz,length_append->Lf,length_cons->Lg,length_map->KG,length_nil->K4,mem_append->Kg,mem_filterMap->Lq,nodup_append->Kf,nodup_cons->Lp
open Nat renaming le_refl->Ki,zero_add->Li,zero_le->Ky

namespace Go.Proofs.YtkbcplnlehdjfaaGreat
open Go.RowKit Go.Maps
attribute [local go_sem ↓] Kc Kd
structure ng {α:Type} (K:Kind α) (T:TypeId) (W w:World) (acc:List α) (a:Option Addr) (c:Nat):Prop where
 own:w.ownsRow W.heap.size T K.n (.slice a acc.length c) acc.length (K.flat acc)
 cd:Below W.heap.size W w
theorem ng.start {α:Type} {K:Kind α} {T:TypeId} {W:World} :ng K T W (W.alloc (.cells #[] T)) [] (some ⟨W.heap.size,0,none⟩) 0:=⟨i6 (Kj _ _) (Ki _),(Kp _ _).alloc (Ki _) _⟩
theorem ng.add {α:Type} {K:Kind α} {T:TypeId} {W w:World} {acc:List α} {a:Option Addr} {c:Nat} (h:ng K T W w acc a c) (t:TypeId) (bytes:Nat) {z0:Value} {P:Program} (ht:P.underlying t=some (.slice T))
  (hi:(P.info? T).map (fun i=>(i.zero,i.size,i.bytes))=some (some z0,K.n,bytes)) (hz:z0.cells.size=K.n) (hn:0 < K.n) (hby:bytes≤1000) (z:α) (zs:Array Value) (hzs:zs.toList=K.vals z) (h1: ∀ u∈K.vals z,u.oneCell'=true) (hl:acc.length≤2000000):
  ∃ a' c' w',(Builtin.append_ #[t,t] t #[.slice a acc.length c,.slice (some ⟨w.heap.size,0,none⟩) 1 1]).run P (w.alloc (.cells zs T))= .ok (.slice a' (acc.length+1) c') w'∧ng K T W w' (acc ++ [z]) a' c':=by
 obtain ⟨i,hi,e⟩:=Option.map_eq_some_iff.1 hi;simp only [Prod.mk.injEq] at e;have b1:Below w.heap.size w (w.alloc (.cells zs T)):=(Kp _ _).alloc (Ki _) _;have b2:=h.cd.trans (b1.mono h.cd.size);obtain ⟨a',c',w',hr,ho,hg,-⟩:=jD (P:=P) (w.alloc (.cells zs T)) W.heap.size t t T i z0 K.n bytes ht hi e.1 e.2.1 e.2.2 hz hn a acc.length c _ (cR h.own b1) (some ⟨w.heap.size,0,none⟩) 1 1 (K.vals z) (by rw [← hzs]; exact jO (Kj _ _)) (by rw [K.len,Nat.one_mul]) h1 (by omega) hby b2.size;refine ⟨a',c',w',hr,⟨?_,b2.grown hg b2.size fun k e=>(cf h.own (di e)).1⟩⟩;have e1:(acc ++ [z]).length=acc.length+1:=by simp
 rw [e1,K.dc];have e2:K.flat [z] =K.vals z:=by simp [Kind.flat]
 rw [e2];exact ho
theorem DQ {p q:af} {w W W2 w9:World} {o b0 n9 c9:Nat} {x:ao} {xp:aD} {acc:List ao} {a9:Option Addr} (hB:av W2 w.heap.size p∧ap W2 b0 p∧Below w.heap.size w W2∧W2.heap[w.heap.size+1]? =some (.cells ar 32 (0,0)))
  (hQ:av W2 o q∧ap W2 W.heap.size q∧q.pure=p.pure∧(∀ g∈q.Mc,g < o)∧W.heap.size≤o∧w.heap.size+1 < W.heap.size∧o < W2.heap.size) (hpb: ∀ g∈p.Mc,g < w.heap.size) (hl:ng bg 43 W2 w9 acc a9 c9) (ha:acc=bY (fun y:ao=>y.id) x q.L8) (hn:acc.length=n9) (hx:x.toaD=xp)
  (hk: ∀ g,aR.bt x=some g→g∉q.Mc∧g≠o) (hm:aR.cO W2 W.heap.size x):
  (av (w9.setCell ⟨o,2,none⟩ (.slice a9 n9 c9)) w.heap.size p∧ap (w9.setCell ⟨o,2,none⟩ (.slice a9 n9 c9)) b0 p∧Below w.heap.size w (w9.setCell ⟨o,2,none⟩ (.slice a9 n9 c9))∧(w9.setCell ⟨o,2,none⟩ (.slice a9 n9 c9)).heap[w.heap.size+1]? =some (.cells ar 32 (0,0)))∧av (w9.setCell ⟨o,2,none⟩ (.slice a9 n9 c9)) o ({ q with L8:=acc,aN:=a9,aW:=c9 } :af)∧ap (w9.setCell ⟨o,2,none⟩ (.slice a9 n9 c9)) W.heap.size ({ q with L8:=acc,aN:=a9,aW:=c9 } :af)∧({ q with L8:=acc,aN:=a9,aW:=c9 } :af).pure= { p.pure with L8:=bY (·.id) xp p.pure.L8 } :=by
 have hb:=hl.cd;have nW:=hQ.2.2.2.1;have sm: ∀ g,g < W2.heap.size→g≠o→(w9.setCell ⟨o,2,none⟩ (.slice a9 n9 c9)).heap[g]? =W2.heap[g]? :=fun g hg hne=>(aH hne).trans (hb.block _ hg)
 have lY:Below w.heap.size w (w9.setCell ⟨o,2,none⟩ (.slice a9 n9 c9)):=bP (hB.2.2.1.trans (hb.mono (by omega))) (by omega);have iH: ∀ g∈acc.filterMap aR.bt,g∈q.L8.filterMap aR.bt∨aR.bt x=some g:=fun g hg=>by
  obtain ⟨z,hz,he⟩:=Lq.1 hg;rw [ha] at hz;rcases fq.1 hz with rfl | hz
  ·exact .inr he
  ·exact .inl (Lq.2 ⟨z,hz,he⟩)
 have hin: ∀ g∈q.L8.filterMap aR.bt,g∈q.Mc:=fun g hg=>by simp only [af.Mc,Kg]; simp [hg]
 refine ⟨⟨(sm _ (by omega) (by omega)).trans hB.1,hB.2.1.same fun g hg=>sm g (by have:=hpb g hg; omega) (by have:=hpb g hg; omega),lY,(sm _ (by omega) (by omega)).trans hB.2.2.2⟩,?_,?_,?_⟩
 ·have h5:=cx (i:=2) (v:= .slice a9 n9 c9) ((hb.block _ hQ.2.2.2.2.2.2).trans hQ.1)
  unfold av;simp only [hn];exact h5
 ·refine hQ.2.1.IX (B:=W2.heap.size) (by omega) (fun g hg=>by have:=nW g hg; omega) (fun g hg=>sm g (by have:=nW g hg; omega) (by have:=nW g hg; omega)) ?_ (fun z hz=> ?_) ?_ (fun g hg=> ?_) (fun g hg=> ?_)
  ·exact aL hl.own fun g hg=>aH (by have:=(cf hl.own hg).1; omega)
  ·rw [ha] at hz
   rcases fq.1 hz with rfl | hz
   ·exact hm.same fun g hg=>sm g (hm.lt hg).2 (hk g hg).2
   ·refine (hQ.2.1.eI z hz).same fun g hg=> ?_
    have h5:=nW g (hin g (Lq.2 ⟨z,hz,hg⟩));exact sm g (by omega) (by omega)
  ·have h5:=hQ.2.1.nodup
   simp only [af.Mc,Kf] at h5;have h6:(q.L8.filterMap aR.bt).Nodup:=h5.2.1.1;have hp:(acc.filterMap aR.bt).Perm ((x :: q.L8).filterMap aR.bt):=by rw [ha]; exact (pz x _).filterMap _
   refine hp.nodup_iff.2 ?_;cases he:aR.bt x with
   | none=>rw [List.filterMap_cons_none he]; exact h6
   | some g=>rw [List.filterMap_cons_some he]; exact Lp.2 ⟨fun h7=>(hk g he).1 (hin g h7),h6⟩
  ·rcases iH g hg with h5 | h5
   ·exact .inl h5
   ·exact .inr (hk g h5).1
  ·rcases iH g hg with h5 | h5
   ·have:=nW g (hin g h5); omega
   ·exact (hm.lt h5).2
 ·show ({ q.pure with L8:=acc.map (·.toaD) } :aE)=_
  have e1:q.L8.map (·.toaD)=p.pure.L8:=congrArg aE.L8 hQ.2.2.1;rw [ha,rF (je:=(·.id)) (fun y:ao=>y.toaD) (fun _=>rfl),e1,hx,hQ.2.2.1]
theorem sB (p:af) (id RX:Int) (pa:Option Addr) (ops:List dN) (pc:Nat) (w:World) (b0:Nat) (hwf:(Lit.int .i64 id).wf=true) (hop:ops.length≤1048576∧ ∀ o∈ops,o.2.2.2.size≤1048576) (hrow:Row w pa (fk.flat ops)) (qY:p.pure.Small) (h:ap w b0 p):
  Calls J3 28 #[.agg p.cells,.int .i64 id,.int .i64 RX,.slice pa ops.length pc] w fun e w'=>gI w (cB p.pure { p.pure with L8:=bY (·.id) (newP id RX ops) p.pure.L8 }) e w':=by
 have HB:Hid (av ((w.alloc (.cells p.cells 32)).alloc (.cells ar 32)) w.heap.size p∧ap ((w.alloc (.cells p.cells 32)).alloc (.cells ar 32)) b0 p∧Below w.heap.size w ((w.alloc (.cells p.cells 32)).alloc (.cells ar 32))∧((w.alloc (.cells p.cells 32)).alloc (.cells ar 32)).heap[w.heap.size+1]? =some (.cells ar 32 (0,0))):=by
  have b1:Below w.heap.size w ((w.alloc (.cells p.cells 32)).alloc (.cells ar 32)):=dT _ _ _;exact ⟨(cZ _ _ _).1,h.below b1,b1,(cZ _ _ _).2⟩
 have fl:Hid (p.Fit∧(∀ x∈p.L8,x.dX)∧p.pure.Small∧(Lit.int .i64 id).wf=true):=⟨dV qY,fun x hx=>(cY qY hx).1,qY,hwf⟩
 have tc:Hid ((ops.length≤1048576∧ ∀ o∈ops,o.2.2.2.size≤1048576)∧Row w pa (fk.flat ops)):=⟨hop,hrow⟩
 have hpl:p.L8.length≤1048576:=fl.I.1.short.L8;have pd: ∀ g∈p.Mc,g < w.heap.size:=fun g hg=>(h.lt g hg).2
 clear h qY hwf hop hrow;obtain ⟨m0,m1,m2,m3,m4,m5,m6,m7⟩:=HB.I.1.cells;unfold af.cells at *
 go_enter Tryz.func28,Tryz.ntmps28
 go_wp2_with fail;generalize (w.alloc (.cells p.row 32)).alloc (.cells ar 32)=W at *;clear m0 m1 m2 m3 m4 m5 m6 m7;refine (fR p W fl.I.1 fl.I.2.1 HB.I.2.1.at).mono ?_;rintro e W1 ⟨q,rfl,hown,gn,hb1⟩;have hb2:Below W1.heap.size W1 (W1.alloc (.cells q.cells 32)):=(Kp _ _).alloc (Ki _) _;have hlt:w.heap.size+1 < W.heap.size:=(J2.1 HB.I.2.2.2).1;have hq1: ∀ g∈q.Mc,g < W1.heap.size:=fun g hg=>(hown.lt g hg).2
 have hql:q.L8.length≤1048576:=by have e1:=congrArg (fun z=>z.L8.length) gn; simp only [af.pure,KG] at e1; omega
 have hs2:(W1.alloc (.cells q.cells 32)).heap.size=W1.heap.size+1:=by simp
 have hb3:Below (W1.heap.size+1) (W1.alloc (.cells q.cells 32)) ((W1.alloc (.cells q.cells 32)).alloc (.cells #[] 134)):=by rw [← hs2]; exact (Kp _ _).alloc (Ki _) _
 have hbW:Below w.heap.size w ((W1.alloc (.cells q.cells 32)).alloc (.cells #[] 134)):=HB.I.2.2.1.trans ((hb1.trans ((hb2.trans (hb3.mono (by omega))).mono hb1.size)).mono HB.I.2.2.1.size);obtain ⟨xa,xc,w4,hap,ho4,hg4,-⟩:=Gg ((W1.alloc (.cells q.cells 32)).alloc (.cells #[] 134)) (W1.heap.size+1) (W1.heap.size+1) (by have h5:=Kj (W1.alloc (.cells q.cells 32)) (.cells #[] 134); rw [hs2] at h5; exact h5) (Ki _) pa ops pc (tc.I.2.below hbW) tc.I.1.1 (by have:=hb3.size; omega);have hb4:Below (W1.heap.size+1) (W1.alloc (.cells q.cells 32)) w4:=hb3.grown hg4 (by have:=hb3.size; omega) fun c e=>by cases e; exact Ki _
 have hsz4:W1.heap.size+1≤w4.heap.size:=by have:=hb4.size; omega
 have iJ:Below (W1.heap.size+1) (W1.alloc (.cells q.cells 32)) (w4.alloc (.cells #[.int .i64 id,.int .i64 RX,.slice xa ops.length xc,.int .i64 0,.int .i64 0,.int .i64 0,.int .i64 0,.int .i64 0,.string ⟨#[]⟩,.string ⟨#[]⟩,.int .i64 0,.int .i64 0] 43)):=hb4.alloc hsz4 _;have jQ:Below W1.heap.size W1 (w4.alloc (.cells #[.int .i64 id,.int .i64 RX,.slice xa ops.length xc,.int .i64 0,.int .i64 0,.int .i64 0,.int .i64 0,.int .i64 0,.string ⟨#[]⟩,.string ⟨#[]⟩,.int .i64 0,.int .i64 0] 43)):=hb2.trans (iJ.mono (by omega));have gh:Below W.heap.size W (w4.alloc (.cells #[.int .i64 id,.int .i64 RX,.slice xa ops.length xc,.int .i64 0,.int .i64 0,.int .i64 0,.int .i64 0,.int .i64 0,.string ⟨#[]⟩,.string ⟨#[]⟩,.int .i64 0,.int .i64 0] 43)):=hb1.trans (jQ.mono hb1.size);have HX:Hid ((w4.alloc (.cells #[.int .i64 id,.int .i64 RX,.slice xa ops.length xc,.int .i64 0,.int .i64 0,.int .i64 0,.int .i64 0,.int .i64 0,.string ⟨#[]⟩,.string ⟨#[]⟩,.int .i64 0,.int .i64 0] 43)).heap[w4.heap.size]? =some (.cells #[.int .i64 id,.int .i64 RX,.slice xa ops.length xc,.int .i64 0,.int .i64 0,.int .i64 0,.int .i64 0,.int .i64 0,.string ⟨#[]⟩,.string ⟨#[]⟩,.int .i64 0,.int .i64 0] 43 (0,0))∧aR.cO (w4.alloc (.cells #[.int .i64 id,.int .i64 RX,.slice xa ops.length xc,.int .i64 0,.int .i64 0,.int .i64 0,.int .i64 0,.int .i64 0,.string ⟨#[]⟩,.string ⟨#[]⟩,.int .i64 0,.int .i64 0] 43)) (W1.heap.size+1) (⟨newP id RX ops,xa,xc⟩:ao)∧w4.heap.size < (w4.alloc (.cells #[.int .i64 id,.int .i64 RX,.slice xa ops.length xc,.int .i64 0,.int .i64 0,.int .i64 0,.int .i64 0,.int .i64 0,.string ⟨#[]⟩,.string ⟨#[]⟩,.int .i64 0,.int .i64 0] 43)).heap.size):=⟨Kj _ _,cR ho4 ((Kp _ _).alloc (Ki _) _),by simp⟩
 have HQ:Hid (av (w4.alloc (.cells #[.int .i64 id,.int .i64 RX,.slice xa ops.length xc,.int .i64 0,.int .i64 0,.int .i64 0,.int .i64 0,.int .i64 0,.string ⟨#[]⟩,.string ⟨#[]⟩,.int .i64 0,.int .i64 0] 43)) W1.heap.size q∧ap (w4.alloc (.cells #[.int .i64 id,.int .i64 RX,.slice xa ops.length xc,.int .i64 0,.int .i64 0,.int .i64 0,.int .i64 0,.int .i64 0,.string ⟨#[]⟩,.string ⟨#[]⟩,.int .i64 0,.int .i64 0] 43)) W.heap.size q∧q.pure=p.pure∧(∀ g∈q.Mc,g < W1.heap.size)∧W.heap.size≤W1.heap.size∧w.heap.size+1 < W.heap.size∧W1.heap.size < (w4.alloc (.cells #[.int .i64 id,.int .i64 RX,.slice xa ops.length xc,.int .i64 0,.int .i64 0,.int .i64 0,.int .i64 0,.int .i64 0,.string ⟨#[]⟩,.string ⟨#[]⟩,.int .i64 0,.int .i64 0] 43)).heap.size):=⟨(iJ.block _ (by omega)).trans (Kj _ _),hown.below jQ,gn,hq1,hb1.size,hlt,by have:=iJ.size; omega⟩
 replace HB:Hid (av (w4.alloc (.cells #[.int .i64 id,.int .i64 RX,.slice xa ops.length xc,.int .i64 0,.int .i64 0,.int .i64 0,.int .i64 0,.int .i64 0,.string ⟨#[]⟩,.string ⟨#[]⟩,.int .i64 0,.int .i64 0] 43)) w.heap.size p∧ap (w4.alloc (.cells #[.int .i64 id,.int .i64 RX,.slice xa ops.length xc,.int .i64 0,.int .i64 0,.int .i64 0,.int .i64 0,.int .i64 0,.string ⟨#[]⟩,.string ⟨#[]⟩,.int .i64 0,.int .i64 0] 43)) b0 p∧Below w.heap.size w (w4.alloc (.cells #[.int .i64 id,.int .i64 RX,.slice xa ops.length xc,.int .i64 0,.int .i64 0,.int .i64 0,.int .i64 0,.int .i64 0,.string ⟨#[]⟩,.string ⟨#[]⟩,.int .i64 0,.int .i64 0] 43))∧(w4.alloc (.cells #[.int .i64 id,.int .i64 RX,.slice xa ops.length xc,.int .i64 0,.int .i64 0,.int .i64 0,.int .i64 0,.int .i64 0,.string ⟨#[]⟩,.string ⟨#[]⟩,.int .i64 0,.int .i64 0] 43)).heap[w.heap.size+1]? =some (.cells ar 32 (0,0))):=⟨HB.I.1.below gh,HB.I.2.1.below gh,HB.I.2.2.1.trans (gh.mono HB.I.2.2.1.size),(gh.block _ hlt).trans HB.I.2.2.2⟩
 have Au:Hid (∀ g∈p.Mc,g < w.heap.size):=fun g hg=>pd g hg
 clear hown gn hb1 hb2 hb3 hb4 iJ jQ gh hbW hq1 hlt pd ho4 hg4 hs2 hsz4;have En:Hid (ng bg 43 (w4.alloc (.cells #[.int .i64 id,.int .i64 RX,.slice xa ops.length xc,.int .i64 0,.int .i64 0,.int .i64 0,.int .i64 0,.int .i64 0,.string ⟨#[]⟩,.string ⟨#[]⟩,.int .i64 0,.int .i64 0] 43)) ((w4.alloc (.cells #[.int .i64 id,.int .i64 RX,.slice xa ops.length xc,.int .i64 0,.int .i64 0,.int .i64 0,.int .i64 0,.int .i64 0,.string ⟨#[]⟩,.string ⟨#[]⟩,.int .i64 0,.int .i64 0] 43)).alloc (.cells #[] 43)) [] (some ⟨(w4.alloc (.cells #[.int .i64 id,.int .i64 RX,.slice xa ops.length xc,.int .i64 0,.int .i64 0,.int .i64 0,.int .i64 0,.int .i64 0,.string ⟨#[]⟩,.string ⟨#[]⟩,.int .i64 0,.int .i64 0] 43)).heap.size,0,none⟩) 0):=ng.start;have Hw:(w4.alloc (.cells #[.int .i64 id,.int .i64 RX,.slice xa ops.length xc,.int .i64 0,.int .i64 0,.int .i64 0,.int .i64 0,.int .i64 0,.string ⟨#[]⟩,.string ⟨#[]⟩,.int .i64 0,.int .i64 0] 43)).heap.size=w4.heap.size+1:=by simp
 have HW:Hid ((w4.alloc (.cells #[.int .i64 id,.int .i64 RX,.slice xa ops.length xc,.int .i64 0,.int .i64 0,.int .i64 0,.int .i64 0,.int .i64 0,.string ⟨#[]⟩,.string ⟨#[]⟩,.int .i64 0,.int .i64 0] 43)).heap.size=w4.heap.size+1):=Hw;clear Hw;unfold af.cells at *;go_wp2_with (at_builtin; refine br _ rfl _ _ 37 rfl _ _ _ _ rfl rfl hap ?_; clear hap);generalize w4.alloc (.cells #[.int .i64 id,.int .i64 RX,.slice xa ops.length xc,.int .i64 0,.int .i64 0,.int .i64 0,.int .i64 0,.int .i64 0,.string ⟨#[]⟩,.string ⟨#[]⟩,.int .i64 0,.int .i64 0] 43)=W2 at *;generalize W1.heap.size=o at *;generalize w4.heap.size=xb at *
 go_loopw [12,13,14] (fun l d i wr=> ∃ (k:Nat) (dn:Bool) (acc:List ao) (a:Option Addr) (c:Nat),k≤q.L8.length∧i= .int .i64 k∧d= .bool dn∧l= .slice a acc.length c∧Hid (ng bg 43 W2 wr acc a c∧gY (fun y:ao=>y.id) (⟨newP id RX ops,xa,xc⟩:ao) q.L8 k dn acc)) (fun _ _ i _=>q.L8.length - (Go.RowKit.intOf i).toNat)
 case atStart=>exact ⟨0,false,[],some ⟨W2.heap.size,0,none⟩,0,Ky _,rfl,rfl,by rw [HW.I]; rfl,⟨En.I,gY.start _ _⟩⟩
 case round=>
  obtain ⟨k,dn,acc,a,c,hk,rfl,rfl,rfl,HA⟩:=hrel;have i0:(0:Int)≤(k:Int):=by omega
  have hbr:=HA.I.1.cd;have hal:=HA.I.2.le;have mo:wr.cell? ⟨o,2,none⟩=some (.slice q.aN q.L8.length q.aW):=(HQ.I.1.below hbr).cells.2.2.1;by_cases hlt:k < q.L8.length
  ·have i1:(k:Int) < (q.L8.length:Int):=by omega
   obtain ⟨y,hy⟩: ∃ y,q.L8[k]? =some y:=⟨_,Kz hlt⟩
   have HY:Hid (q.L8[k]? =some y):=hy;obtain ⟨g,ha,hat⟩:=cn (HQ.I.2.1.below hbr).at.1 hy;rw [ha] at mo;obtain ⟨d0,d1,d2,d3,d4,d5,d6,d7,d8,d9,tH,tS⟩:=hat;have HG:Hid (q.aN=some ⟨g,0,none⟩):=ha;clear ha hy;obtain ⟨a5,c5,w5,hap,rL⟩:=HA.I.1.add 25 128 (P:=J3) Qs nb rfl (by decide) (by decide) y y.row rfl rB (by omega);have F5:Hid (ng bg 43 W2 w5 (acc ++ [y]) a5 c5):=rL;clear rL;cases dn;rotate_left
   ·go_wp2_with (at_builtin; first | (refine br _ rfl _ _ 25 rfl _ _ _ _ rfl rfl hap ?_; clear hap))
    go_round
    case rel=>exact ⟨k+1,true,acc ++ [y],a5,c5,by omega,by go_num,rfl,by simp,⟨F5.I,HA.I.2.on HY.I⟩⟩
    case measure=>simp [Go.RowKit.intOf]; omega
   by_cases hc:id < y.id;rotate_left
   ·have HC:Hid (¬ id < y.id):=hc
    go_wp2_with (at_builtin; first | (refine br _ rfl _ _ 25 rfl _ _ _ _ rfl rfl hap ?_; clear hap))
    go_round
    case rel=>exact ⟨k+1,false,acc ++ [y],a5,c5,by omega,by go_num,rfl,by simp,⟨F5.I,HA.I.2.past HY.I HC.I⟩⟩
    case measure=>simp [Go.RowKit.intOf]; omega
   clear hap F5 a5 c5 w5;have HC:Hid (id < y.id):=hc;obtain ⟨a5,c5,w5,hap,rL⟩:=HA.I.1.add 25 128 (P:=J3) Qs nb rfl (by decide) (by decide) (⟨newP id RX ops,xa,xc⟩:ao) #[.int .i64 id,.int .i64 RX,.slice xa ops.length xc,.int .i64 0,.int .i64 0,.int .i64 0,.int .i64 0,.int .i64 0,.string ⟨#[]⟩,.string ⟨#[]⟩,.int .i64 0,.int .i64 0] rfl rB (by omega);obtain ⟨a7,c7,w7,gT,mI⟩:=rL.add 25 128 (P:=J3) Qs nb rfl (by decide) (by decide) y y.row rfl rB (by simp; omega);rw [Lf] at gT;simp only [Lg,K4,Li] at gT;have HL7:Hid (ng bg 43 W2 w7 (acc ++ [(⟨newP id RX ops,xa,xc⟩:ao)] ++ [y]) a7 c7):=mI;have mo5:w5.cell? ⟨o,2,none⟩=some (.slice q.aN q.L8.length q.aW):=(HQ.I.1.below rL.cd).cells.2.2.1;obtain ⟨g2,ha2,g8⟩:=cn (HQ.I.2.1.below rL.cd).at.1 HY.I;rw [HG.I] at ha2 mo5;cases ha2;obtain ⟨e0,e1,e2,e3,e4,e5,e6,e7,e8,e9,Pn,e11⟩:=g8;obtain ⟨x0,x1,x2,x3,x4,x5,x6,x7,x8,x9,x10,Dm⟩:=bo (x:=(⟨newP id RX ops,xa,xc⟩:ao)) (X:=xb) (W:=wr) ((hbr.block _ HX.I.2.2).trans HX.I.1);clear rL mI;go_wp2_with (at_builtin; first | (refine br _ rfl _ _ 25 rfl _ _ _ _ rfl rfl hap ?_; clear hap) | (refine br _ rfl _ _ 25 rfl _ _ _ _ rfl rfl gT ?_; clear gT))
   go_round
   case rel=>exact ⟨k+1,true,acc ++ [(⟨newP id RX ops,xa,xc⟩:ao)] ++ [y],a7,c7,by omega,by go_num,rfl,by simp,⟨HL7.I,HA.I.2.here HY.I HC.I⟩⟩
   case measure=>simp [Go.RowKit.intOf]; omega
  have i1: ¬ (k:Int) < (q.L8.length:Int):=by omega
  cases dn
  ·obtain ⟨a9,c9,w9,hap,Jy⟩:=HA.I.1.add 25 128 (P:=J3) Qs nb rfl (by decide) (by decide) (⟨newP id RX ops,xa,xc⟩:ao) #[.int .i64 id,.int .i64 RX,.slice xa ops.length xc,.int .i64 0,.int .i64 0,.int .i64 0,.int .i64 0,.int .i64 0,.string ⟨#[]⟩,.string ⟨#[]⟩,.int .i64 0,.int .i64 0] rfl rB (by omega)
   have HR:Hid (ng bg 43 W2 w9 (acc ++ [(⟨newP id RX ops,xa,xc⟩:ao)]) a9 c9∧acc ++ [(⟨newP id RX ops,xa,xc⟩:ao)] =bY (fun y:ao=>y.id) (⟨newP id RX ops,xa,xc⟩:ao) q.L8∧(acc ++ [(⟨newP id RX ops,xa,xc⟩:ao)]).length=acc.length+1):=⟨Jy,HA.I.2.last hlt,by simp⟩
   obtain ⟨x0,x1,x2,x3,x4,x5,x6,x7,x8,x9,x10,Dm⟩:=bo (x:=(⟨newP id RX ops,xa,xc⟩:ao)) (X:=xb) (W:=wr) ((hbr.block _ HX.I.2.2).trans HX.I.1);clear Jy;have eX:Hid (_):=DQ HB.I HQ.I Au.I HR.I.1 HR.I.2.1 HR.I.2.2 rfl (fun g hg=>by have h5:=(HX.I.2.1.lt hg).1; exact ⟨fun h6=>by have:=HQ.I.2.2.2.1 g h6; omega,by omega⟩) (HX.I.2.1.low (by have:=HQ.I.2.2.2.2.1; omega));have Mb:=fi p ({ q with L8:=(acc ++ [(⟨newP id RX ops,xa,xc⟩:ao)]),aN:=a9,aW:=c9 } :af) (w9.setCell ⟨o,2,none⟩ (.slice a9 (acc.length+1) c9)) ⟨fl.I.1,fl.I.2.1,eX.I.1.2.1.at⟩ (fun hr=>by
    have h5:aE.Small ({ q with L8:=(acc ++ [(⟨newP id RX ops,xa,xc⟩:ao)]),aN:=a9,aW:=c9 } :af).pure:=by rw [eX.I.2.2.2]; exact pO fl.I.2.2.1 hr tc.I.1 fl.I.2.2.2
    exact ⟨dV h5,fun x hx=>(cY h5 hx).1,eX.I.2.2.1.at⟩)
   obtain ⟨m0,m1,m2,m3,m4,m5,m6,m7⟩:=eX.I.1.1.cells;obtain ⟨k0,k1,k2,k3,k4,k5,k6,k7⟩:=eX.I.2.1.cells;obtain ⟨⟨u,co⟩,fo⟩:(∃ u,w9.cell? ⟨o,2,none⟩=some u)∧w9.frozen? ⟨o,2,none⟩=false:=⟨⟨_,(HQ.I.1.below HR.I.1.cd).cells.2.2.1⟩,Ko _ _ _ _ _ (HQ.I.1.below HR.I.1.cd)⟩
   unfold af.cells at Mb;have sR:=HR.I.2.2;simp only [sR] at Mb k0 k1 k2 k3 k4 k5 k6 k7;clear sR;go_wp2_with (at_builtin; first | (refine br _ rfl _ _ 25 rfl _ _ _ _ rfl rfl hap ?_; clear hap));refine Mb.mono ?_;clear Mb m0 m1 m2 m3 m4 m5 m6 m7 k0 k1 k2 k3 k4 k5 k6 k7;rintro e ow ⟨gy,hok⟩;have hq:=HQ.I.2.2.2.2;have HZ:Hid (Below w.heap.size w ow∧ow.heap[w.heap.size+1]? =some (.cells ar 32 (0,0))∧ap ow W.heap.size ({ q with L8:=(acc ++ [(⟨newP id RX ops,xa,xc⟩:ao)]),aN:=a9,aW:=c9 } :af)∧w.heap.size+1 < W.heap.size):=⟨eX.I.1.2.2.1.trans (gy.mono eX.I.1.2.2.1.size),(gy.block _ (J2.1 eX.I.1.2.2.2).1).trans eX.I.1.2.2.2,eX.I.2.2.1.below gy,hq.2.1⟩
   clear gy hq;rw [eX.I.2.2.2] at hok;rcases hok with ⟨hok,rfl⟩ | ⟨hok,rfl⟩
   ·have HN:Hid (cB p.pure { p.pure with L8:=bY (·.id) (newP id RX ops) p.pure.L8 } =some { p.pure with L8:=bY (·.id) (newP id RX ops) p.pure.L8 }):=jS hok
    clear hok;go_wp2_with (refine ec 8 66 #[.int .i64 q.id,.int .i64 q.next,.slice a9 (acc.length+1) c9,.slice q.bc q.aj.length q.bF,.slice q.ay q.L9.length q.aO,.slice q.ax q.ag.length q.aP,.slice q.am q.ae.length q.aG,.slice q.aK q.ai.length q.aV] HZ.I.2.1 ?_);refine mG RM (.bool true) HZ.I.2.1 ?_;have hl:=HZ.I.2.2.2;rw [HN.I];refine ⟨({ q with L8:=(acc ++ [(⟨newP id RX ops,xa,xc⟩:ao)]),aN:=a9,aW:=c9 } :af),by unfold af.cells; simp only [HR.I.2.2]; rfl,(HZ.I.2.2.1.lower (by omega)).same fun g hg=>KH _ _ _ _ (by have:=(HZ.I.2.2.1.lt g hg).1; omega),eX.I.2.2.2,below_setRow HZ.I.1 (by omega) _⟩
   ·have HN:Hid (cB p.pure { p.pure with L8:=bY (·.id) (newP id RX ops) p.pure.L8 } =none):=jh hok
    clear hok;go_wp2_with (refine ec 8 66 ar HZ.I.2.1 ?_);refine mG RM (.bool false) HZ.I.2.1 ?_;exact ca HN.I (below_setRow HZ.I.1 (by omega) _)
  ·have HR:Hid (ng bg 43 W2 wr acc a c∧acc=bY (fun y:ao=>y.id) (⟨newP id RX ops,xa,xc⟩:ao) q.L8∧acc.length=acc.length):=⟨HA.I.1,HA.I.2.done hlt,rfl⟩
   have eX:Hid (_):=DQ HB.I HQ.I Au.I HR.I.1 HR.I.2.1 HR.I.2.2 rfl (fun g hg=>by have h5:=(HX.I.2.1.lt hg).1; exact ⟨fun h6=>by have:=HQ.I.2.2.2.1 g h6; omega,by omega⟩) (HX.I.2.1.low (by have:=HQ.I.2.2.2.2.1; omega));have Mb:=fi p ({ q with L8:=acc,aN:=a,aW:=c } :af) (wr.setCell ⟨o,2,none⟩ (.slice a acc.length c)) ⟨fl.I.1,fl.I.2.1,eX.I.1.2.1.at⟩ (fun hr=>by
    have h5:aE.Small ({ q with L8:=acc,aN:=a,aW:=c } :af).pure:=by rw [eX.I.2.2.2]; exact pO fl.I.2.2.1 hr tc.I.1 fl.I.2.2.2
    exact ⟨dV h5,fun x hx=>(cY h5 hx).1,eX.I.2.2.1.at⟩)
   obtain ⟨m0,m1,m2,m3,m4,m5,m6,m7⟩:=eX.I.1.1.cells;obtain ⟨k0,k1,k2,k3,k4,k5,k6,k7⟩:=eX.I.2.1.cells;obtain ⟨⟨u,co⟩,fo⟩:(∃ u,wr.cell? ⟨o,2,none⟩=some u)∧wr.frozen? ⟨o,2,none⟩=false:=⟨⟨_,(HQ.I.1.below HR.I.1.cd).cells.2.2.1⟩,Ko _ _ _ _ _ (HQ.I.1.below HR.I.1.cd)⟩
   unfold af.cells at Mb;simp only at Mb k0 k1 k2 k3 k4 k5 k6 k7;go_wp2_with fail;refine Mb.mono ?_;clear Mb m0 m1 m2 m3 m4 m5 m6 m7 k0 k1 k2 k3 k4 k5 k6 k7;rintro e ow ⟨gy,hok⟩;have hq:=HQ.I.2.2.2.2;have HZ:Hid (Below w.heap.size w ow∧ow.heap[w.heap.size+1]? =some (.cells ar 32 (0,0))∧ap ow W.heap.size ({ q with L8:=acc,aN:=a,aW:=c } :af)∧w.heap.size+1 < W.heap.size):=⟨eX.I.1.2.2.1.trans (gy.mono eX.I.1.2.2.1.size),(gy.block _ (J2.1 eX.I.1.2.2.2).1).trans eX.I.1.2.2.2,eX.I.2.2.1.below gy,hq.2.1⟩
   clear gy hq;rw [eX.I.2.2.2] at hok;rcases hok with ⟨hok,rfl⟩ | ⟨hok,rfl⟩
   ·have HN:Hid (cB p.pure { p.pure with L8:=bY (·.id) (newP id RX ops) p.pure.L8 } =some { p.pure with L8:=bY (·.id) (newP id RX ops) p.pure.L8 }):=jS hok
    clear hok;go_wp2_with (refine ec 8 66 #[.int .i64 q.id,.int .i64 q.next,.slice a acc.length c,.slice q.bc q.aj.length q.bF,.slice q.ay q.L9.length q.aO,.slice q.ax q.ag.length q.aP,.slice q.am q.ae.length q.aG,.slice q.aK q.ai.length q.aV] HZ.I.2.1 ?_);refine mG RM (.bool true) HZ.I.2.1 ?_;have hl:=HZ.I.2.2.2;rw [HN.I];refine ⟨({ q with L8:=acc,aN:=a,aW:=c } :af),by rfl,(HZ.I.2.2.1.lower (by omega)).same fun g hg=>KH _ _ _ _ (by have:=(HZ.I.2.2.1.lt g hg).1; omega),eX.I.2.2.2,below_setRow HZ.I.1 (by omega) _⟩
   ·have HN:Hid (cB p.pure { p.pure with L8:=bY (·.id) (newP id RX ops) p.pure.L8 } =none):=jh hok
    clear hok;go_wp2_with (refine ec 8 66 ar HZ.I.2.1 ?_);refine mG RM (.bool false) HZ.I.2.1 ?_;exact ca HN.I (below_setRow HZ.I.1 (by omega) _)
end Go.Proofs.YtkbcplnlehdjfaaGreat

namespace Go.Proofs.YtkbcplnlehdjfaaGreat
open Go.RowKit Go.Maps
attribute [local go_sem ↓] Kc Kd
theorem fy.drew {α:Type} {K:Kind α} {T:TypeId} {XV:Array Value} {W w:World} {acc:List α} {a:Option Addr} {c:Nat} (h:fy K T XV W w acc a c):fy K T XV W w.drew acc a c:=⟨aL h.own fun _ _=>rfl,h.ne,h.cd.drew,h.box⟩
theorem DY {p q:af} {w W W2 w9:World} {o b0 n9 c9:Nat} {x:aM} {xp:dS} {XV:Array Value} {acc:List aM} {a9:Option Addr} (hB:av W2 w.heap.size p∧ap W2 b0 p∧Below w.heap.size w W2∧W2.heap[w.heap.size+1+1]? =some (.cells ar 32 (0,0)))
  (hQ:av W2 o q∧ap W2 W.heap.size q∧q.pure=p.pure∧(∀ g∈q.Mc,g < o)∧W.heap.size≤o∧w.heap.size+1+1 < W.heap.size∧o < W2.heap.size) (hpb: ∀ g∈p.Mc,g < w.heap.size) (hl:fy bX 61 XV W2 w9 acc a9 c9) (ha:acc=bY (fun y:aM=>y.id) x q.ai) (hn:acc.length=n9) (hx:x.todS=xp)
  (hk: ∀ g,aU.bt x=some g→g∉q.Mc∧g≠o) (hm:aU.cO W2 W.heap.size x):
  (av (w9.setCell ⟨o,7,none⟩ (.slice a9 n9 c9)) w.heap.size p∧ap (w9.setCell ⟨o,7,none⟩ (.slice a9 n9 c9)) b0 p∧Below w.heap.size w (w9.setCell ⟨o,7,none⟩ (.slice a9 n9 c9))∧(w9.setCell ⟨o,7,none⟩ (.slice a9 n9 c9)).heap[w.heap.size+1+1]? =some (.cells ar 32 (0,0)))∧av (w9.setCell ⟨o,7,none⟩ (.slice a9 n9 c9)) o ({ q with ai:=acc,aK:=a9,aV:=c9 } :af)∧ap (w9.setCell ⟨o,7,none⟩ (.slice a9 n9 c9)) W.heap.size ({ q with ai:=acc,aK:=a9,aV:=c9 } :af)∧({ q with ai:=acc,aK:=a9,aV:=c9 } :af).pure= { p.pure with ai:=bY (·.id) xp p.pure.ai } :=by
 have hb:=hl.cd;have nW:=hQ.2.2.2.1;have sm: ∀ g,g < W2.heap.size→g≠o→(w9.setCell ⟨o,7,none⟩ (.slice a9 n9 c9)).heap[g]? =W2.heap[g]? :=fun g hg hne=>(aH hne).trans (hb.block _ hg)
 have lY:Below w.heap.size w (w9.setCell ⟨o,7,none⟩ (.slice a9 n9 c9)):=bP (hB.2.2.1.trans (hb.mono (by omega))) (by omega);have iH: ∀ g∈acc.filterMap aU.bt,g∈q.ai.filterMap aU.bt∨aU.bt x=some g:=fun g hg=>by
  obtain ⟨z,hz,he⟩:=Lq.1 hg;rw [ha] at hz;rcases fq.1 hz with rfl | hz
  ·exact .inr he
  ·exact .inl (Lq.2 ⟨z,hz,he⟩)
 have hin: ∀ g∈q.ai.filterMap aU.bt,g∈q.Mc:=fun g hg=>by simp only [af.Mc,Kg]; simp [hg]
 refine ⟨⟨(sm _ (by omega) (by omega)).trans hB.1,hB.2.1.same fun g hg=>sm g (by have:=hpb g hg; omega) (by have:=hpb g hg; omega),lY,(sm _ (by omega) (by omega)).trans hB.2.2.2⟩,?_,?_,?_⟩
 ·have h5:=cx (i:=7) (v:= .slice a9 n9 c9) ((hb.block _ hQ.2.2.2.2.2.2).trans hQ.1)
  unfold av;simp only [hn];exact h5
 ·refine hQ.2.1.Jb (B:=W2.heap.size) (by omega) (fun g hg=>by have:=nW g hg; omega) (fun g hg=>sm g (by have:=nW g hg; omega) (by have:=nW g hg; omega)) ?_ (fun z hz=> ?_) ?_ (fun g hg=> ?_) (fun g hg=> ?_)
  ·exact aL hl.own fun g hg=>aH (by have:=(cf hl.own hg).1; omega)
  ·rw [ha] at hz
   rcases fq.1 hz with rfl | hz
   ·exact hm.same fun g hg=>sm g (hm.lt hg).2 (hk g hg).2
   ·refine (hQ.2.1.eR z hz).same fun g hg=> ?_
    have h5:=nW g (hin g (Lq.2 ⟨z,hz,hg⟩));exact sm g (by omega) (by omega)
  ·have h5:=hQ.2.1.nodup
   simp only [af.Mc,Kf] at h5;have h6:(q.ai.filterMap aU.bt).Nodup:=h5.2.1.2.1.2.1.2.1.2.1.2.1.2.1.2.1;have hp:(acc.filterMap aU.bt).Perm ((x :: q.ai).filterMap aU.bt):=by rw [ha]; exact (pz x _).filterMap _
   refine hp.nodup_iff.2 ?_;cases he:aU.bt x with
   | none=>rw [List.filterMap_cons_none he]; exact h6
   | some g=>rw [List.filterMap_cons_some he]; exact Lp.2 ⟨fun h7=>(hk g he).1 (hin g h7),h6⟩
  ·rcases iH g hg with h5 | h5
   ·exact .inl h5
   ·exact .inr (hk g h5).1
  ·rcases iH g hg with h5 | h5
   ·have:=nW g (hin g h5); omega
   ·exact (hm.lt h5).2
 ·show ({ q.pure with ai:=acc.map (·.todS) } :aE)=_
  have e1:q.ai.map (·.todS)=p.pure.ai:=congrArg aE.ai hQ.2.2.1;rw [ha,rF (je:=(·.id)) (fun y:aM=>y.todS) (fun _=>rfl),e1,hx,hQ.2.2.1]
theorem nd (p:af) (z:aM) (w:World) (b0:Nat) (hwf:(Lit.int .i64 z.id).wf=true) (qY:p.pure.Small) (h:ap w b0 p):
  Calls J3 46 #[.agg p.cells,.agg #[.int .i64 z.id,.bool z.I,.bool z.Mf,.int .i64 z.max,.slice z.ak z.Ma.length z.aq]] w fun e w'=>gI w (cB p.pure { p.pure with ai:=bY (·.id) (⟨z.id,z.I,z.Mf,z.max,[]⟩:dS) p.pure.ai }) e w':=by
 have HB:Hid (av (((w.alloc (.cells p.cells 32)).alloc (.cells #[.int .i64 z.id,.bool z.I,.bool z.Mf,.int .i64 z.max,.slice z.ak z.Ma.length z.aq] 61)).alloc (.cells ar 32)) w.heap.size p∧ap (((w.alloc (.cells p.cells 32)).alloc (.cells #[.int .i64 z.id,.bool z.I,.bool z.Mf,.int .i64 z.max,.slice z.ak z.Ma.length z.aq] 61)).alloc (.cells ar 32)) b0 p∧Below w.heap.size w (((w.alloc (.cells p.cells 32)).alloc (.cells #[.int .i64 z.id,.bool z.I,.bool z.Mf,.int .i64 z.max,.slice z.ak z.Ma.length z.aq] 61)).alloc (.cells ar 32))∧(((w.alloc (.cells p.cells 32)).alloc (.cells #[.int .i64 z.id,.bool z.I,.bool z.Mf,.int .i64 z.max,.slice z.ak z.Ma.length z.aq] 61)).alloc (.cells ar 32)).heap[w.heap.size+1+1]? =some (.cells ar 32 (0,0))):=by
  have b1:Below w.heap.size w (((w.alloc (.cells p.cells 32)).alloc (.cells #[.int .i64 z.id,.bool z.I,.bool z.Mf,.int .i64 z.max,.slice z.ak z.Ma.length z.aq] 61)).alloc (.cells ar 32)):=fg _ _ _ _;have h3:=dR w (.cells p.cells 32) (.cells #[.int .i64 z.id,.bool z.I,.bool z.Mf,.int .i64 z.max,.slice z.ak z.Ma.length z.aq] 61) (.cells ar 32);exact ⟨h3.1,h.below b1,b1,h3.2.2.1⟩
 have Cj:Hid ((((w.alloc (.cells p.cells 32)).alloc (.cells #[.int .i64 z.id,.bool z.I,.bool z.Mf,.int .i64 z.max,.slice z.ak z.Ma.length z.aq] 61)).alloc (.cells ar 32)).heap[w.heap.size+1]? =some (.cells #[.int .i64 z.id,.bool z.I,.bool z.Mf,.int .i64 z.max,.slice z.ak z.Ma.length z.aq] 61 (0,0))):=(dR _ _ _ _).2.1;have fl:Hid (p.Fit∧(∀ x∈p.L8,x.dX)∧p.pure.Small∧(Lit.int .i64 z.id).wf=true):=⟨dV qY,fun x hx=>(cY qY hx).1,qY,hwf⟩
 have hpl:p.ai.length≤1048576:=fl.I.1.short.ai;have pd: ∀ g∈p.Mc,g < w.heap.size:=fun g hg=>(h.lt g hg).2
 clear h qY hwf;obtain ⟨m0,m1,m2,m3,m4,m5,m6,m7⟩:=HB.I.1.cells;unfold af.cells at *
 go_enter Tryz.func46,Tryz.ntmps46
 go_wp2_with fail;generalize ((w.alloc (.cells p.row 32)).alloc (.cells #[.int .i64 z.id,.bool z.I,.bool z.Mf,.int .i64 z.max,.slice z.ak z.Ma.length z.aq] 61)).alloc (.cells ar 32)=W at *;clear m0 m1 m2 m3 m4 m5 m6 m7;refine (fR p W fl.I.1 fl.I.2.1 HB.I.2.1.at).mono ?_;rintro e W1 ⟨q,rfl,hown,gn,hb1⟩;have hb2:Below W1.heap.size W1 (W1.alloc (.cells q.cells 32)):=(Kp _ _).alloc (Ki _) _;have hlt:w.heap.size+1+1 < W.heap.size:=(J2.1 HB.I.2.2.2).1;have hb3:Below W.heap.size W (W1.alloc (.cells q.cells 32)):=hb1.trans (hb2.mono hb1.size);have hq1: ∀ g∈q.Mc,g < W1.heap.size:=fun g hg=>(hown.lt g hg).2
 have hql:q.ai.length≤1048576:=by have e1:=congrArg (fun z=>z.ai.length) gn; simp only [af.pure,KG] at e1; omega
 have HQ:Hid (av (W1.alloc (.cells q.cells 32)) W1.heap.size q∧ap (W1.alloc (.cells q.cells 32)) W.heap.size q∧q.pure=p.pure∧(∀ g∈q.Mc,g < W1.heap.size)∧W.heap.size≤W1.heap.size∧w.heap.size+1+1 < W.heap.size∧W1.heap.size < (W1.alloc (.cells q.cells 32)).heap.size):=⟨Kj _ _,hown.below hb2,gn,hq1,hb1.size,hlt,by simp⟩
 replace HB:Hid (av (W1.alloc (.cells q.cells 32)) w.heap.size p∧ap (W1.alloc (.cells q.cells 32)) b0 p∧Below w.heap.size w (W1.alloc (.cells q.cells 32))∧(W1.alloc (.cells q.cells 32)).heap[w.heap.size+1+1]? =some (.cells ar 32 (0,0))):=⟨HB.I.1.below hb3,HB.I.2.1.below hb3,HB.I.2.2.1.trans (hb3.mono HB.I.2.2.1.size),(hb3.block _ hlt).trans HB.I.2.2.2⟩
 replace Cj:Hid ((W1.alloc (.cells q.cells 32)).heap[w.heap.size+1]? =some (.cells #[.int .i64 z.id,.bool z.I,.bool z.Mf,.int .i64 z.max,.slice z.ak z.Ma.length z.aq] 61 (0,0))):=(hb3.block _ (by omega)).trans Cj.I;have hbz:Below (W1.alloc (.cells q.cells 32)).heap.size (W1.alloc (.cells q.cells 32)) ((W1.alloc (.cells q.cells 32)).alloc (.cells #[] 61)):=(Kp _ _).alloc (Ki _) _;obtain ⟨z0,z1,z2,z3,z4⟩:=gE (x:=z) ((hbz.block _ (by have:=hb3.size; omega)).trans Cj.I);clear hbz;have Au:Hid (∀ g∈p.Mc,g < w.heap.size):=fun g hg=>pd g hg
 clear hown gn hb1 hb2 hb3 hq1 hlt pd;have En:Hid (fy bX 61 #[.int .i64 z.id,.bool z.I,.bool z.Mf,.int .i64 z.max,.slice none 0 0] (W1.alloc (.cells q.cells 32)) (((W1.alloc (.cells q.cells 32)).alloc (.cells #[] 61)).alloc (.cells #[.int .i64 z.id,.bool z.I,.bool z.Mf,.int .i64 z.max,.slice none 0 0] 61)) [] (some ⟨(W1.alloc (.cells q.cells 32)).heap.size,0,none⟩) 0):=fy.start;have Hw:(W1.alloc (.cells q.cells 32)).heap.size=W1.heap.size+1:=by simp
 have HW:Hid ((W1.alloc (.cells q.cells 32)).heap.size=W1.heap.size+1):=Hw;clear Hw;unfold af.cells at *;go_wp2_with fail;clear z0 z1 z2 z3 z4;generalize W1.alloc (.cells q.row 32)=W2 at *;generalize W1.heap.size=o at *
 go_loopw [7,9,10] (fun l d i wr=> ∃ (k:Nat) (dn:Bool) (acc:List aM) (a:Option Addr) (c:Nat),k≤q.ai.length∧i= .int .i64 k∧d= .bool dn∧l= .slice a acc.length c∧Hid (fy bX 61 #[.int .i64 z.id,.bool z.I,.bool z.Mf,.int .i64 z.max,.slice none 0 0] W2 wr acc a c∧gY (fun y:aM=>y.id) (⟨⟨z.id,z.I,z.Mf,z.max,[]⟩,none,0⟩:aM) q.ai k dn acc)) (fun _ _ i _=>q.ai.length - (Go.RowKit.intOf i).toNat)
 case atStart=>exact ⟨0,false,[],some ⟨W2.heap.size,0,none⟩,0,Ky _,rfl,rfl,by rw [HW.I]; rfl,⟨En.I,gY.start _ _⟩⟩
 case round=>
  obtain ⟨k,dn,acc,a,c,hk,rfl,rfl,rfl,HA⟩:=hrel;have i0:(0:Int)≤(k:Int):=by omega
  have mo0:wr.cell? ⟨o,7,none⟩=some (.slice q.aK q.ai.length q.aV):=(HQ.I.1.below HA.I.1.cd).cells.2.2.2.2.2.2.2;have hal:=HA.I.2.le;by_cases hlt:k < q.ai.length
  ·have i1:(k:Int) < (q.ai.length:Int):=by omega
   replace HA:Hid (fy bX 61 #[.int .i64 z.id,.bool z.I,.bool z.Mf,.int .i64 z.max,.slice none 0 0] W2 wr.drew acc a c∧gY (fun y:aM=>y.id) (⟨⟨z.id,z.I,z.Mf,z.max,[]⟩,none,0⟩:aM) q.ai k dn acc):=⟨HA.I.1.drew,HA.I.2⟩
   have hbr:=HA.I.1.cd;have mo:wr.drew.cell? ⟨o,7,none⟩=some (.slice q.aK q.ai.length q.aV):=(HQ.I.1.below hbr).cells.2.2.2.2.2.2.2;have zi:wr.drew.cell? ⟨w.heap.size+1,0,none⟩=some (.int .i64 z.id):=(gE (x:=z) ((hbr.block _ (by have:=HQ.I.2.2.2.2; omega)).trans Cj.I)).1;obtain ⟨y,hy⟩: ∃ y,q.ai[k]? =some y:=⟨_,Kz hlt⟩
   have HY:Hid (q.ai[k]? =some y):=hy;obtain ⟨g,ha,hat⟩:=lm (HQ.I.2.1.below hbr).at.2.2.2.2.2 hy;rw [ha] at mo;obtain ⟨d0,d1,d2,d3,d4⟩:=hat;have HG:Hid (q.aK=some ⟨g,0,none⟩):=ha;clear ha hy;obtain ⟨a5,c5,w5,hap,rL⟩:=HA.I.1.add 30 48 (P:=J3) Qu na rfl (by decide) (by decide) y #[.int .i64 y.id,.bool y.I,.bool y.Mf,.int .i64 y.max,.slice y.ak y.Ma.length y.aq] rfl qX (by omega);have F5:Hid (fy bX 61 #[.int .i64 z.id,.bool z.I,.bool z.Mf,.int .i64 z.max,.slice none 0 0] W2 w5 (acc ++ [y]) a5 c5):=rL;clear rL;cases dn;rotate_left
   ·
    go_wp2_with fail;refine aT (fun w'=>w'=wr.drew) (by kernel_rfl) rfl ?_
    iterate 3 (refine PI ?_ (hy:=fun w0 hS0=>by subst hS0; go_simp; try with_reducible rfl))
    iterate 9 (refine nl ?_; simp only [pt,sb,s0,s1])
    (refine PI ?_ (hy:=fun w0 hS0=>by subst hS0; go_simp; try with_reducible rfl))
    refine bk (by kernel_rfl) ?_ _;intro w1 cm;subst cm;clear mo0;go_wp2_with (at_builtin; first | (refine br _ rfl _ _ 30 rfl _ _ _ _ rfl rfl hap ?_; clear hap))
    go_round
    case rel=>exact ⟨k+1,true,acc ++ [y],a5,c5,by omega,by go_num,rfl,by simp,⟨F5.I,HA.I.2.on HY.I⟩⟩
    case measure=>simp [Go.RowKit.intOf]; omega
   by_cases hc:z.id < y.id;rotate_left
   ·have HC:Hid (¬ z.id < y.id):=hc
    have d2:decide (z.id < y.id)=false:=decide_eq_false hc;go_wp2_with fail;refine aT (fun w'=>w'=wr.drew) (by kernel_rfl) rfl ?_
    iterate 13 (refine PI ?_ (hy:=fun w0 hS0=>by subst hS0; go_simp; try with_reducible rfl))
    refine bk (by kernel_rfl) ?_ _;intro w1 cm;subst cm;clear mo0;go_wp2_with (at_builtin; first | (refine br _ rfl _ _ 30 rfl _ _ _ _ rfl rfl hap ?_; clear hap))
    go_round
    case rel=>exact ⟨k+1,false,acc ++ [y],a5,c5,by omega,by go_num,rfl,by simp,⟨F5.I,HA.I.2.past HY.I (Int.not_lt.mpr HC.I)⟩⟩
    case measure=>simp [Go.RowKit.intOf]; omega
   clear hap F5 a5 c5 w5;have HC:Hid (z.id < y.id):=hc;have d2:decide (z.id < y.id)=true:=decide_eq_true hc;obtain ⟨a5,c5,w5,hap,rL⟩:=HA.I.1.add 30 48 (P:=J3) Qu na rfl (by decide) (by decide) (⟨⟨z.id,z.I,z.Mf,z.max,[]⟩,none,0⟩:aM) #[.int .i64 z.id,.bool z.I,.bool z.Mf,.int .i64 z.max,.slice none 0 0] rfl qX (by omega);obtain ⟨a7,c7,w7,gT,mI⟩:=rL.add 30 48 (P:=J3) Qu na rfl (by decide) (by decide) y #[.int .i64 y.id,.bool y.I,.bool y.Mf,.int .i64 y.max,.slice y.ak y.Ma.length y.aq] rfl qX (by simp; omega);rw [Lf] at gT;simp only [Lg,K4,Li] at gT;have HL7:Hid (fy bX 61 #[.int .i64 z.id,.bool z.I,.bool z.Mf,.int .i64 z.max,.slice none 0 0] W2 w7 (acc ++ [(⟨⟨z.id,z.I,z.Mf,z.max,[]⟩,none,0⟩:aM)] ++ [y]) a7 c7):=mI;have mo5:w5.cell? ⟨o,7,none⟩=some (.slice q.aK q.ai.length q.aV):=(HQ.I.1.below rL.cd).cells.2.2.2.2.2.2.2;obtain ⟨g2,ha2,g8⟩:=lm (HQ.I.2.1.below rL.cd).at.2.2.2.2.2 HY.I;rw [HG.I] at ha2 mo5;cases ha2;obtain ⟨e0,e1,e2,e3,e4⟩:=g8;obtain ⟨x0,x1,x2,x3,x4⟩:=gE (x:=(⟨⟨z.id,z.I,z.Mf,z.max,[]⟩,none,0⟩:aM)) (X:=o+1+1) (W:=wr.drew) (by rw [← HW.I]; exact HA.I.1.box);clear rL mI;simp only [K4] at *;go_wp2_with fail;refine aT (fun w'=>w'=wr.drew) (by kernel_rfl) rfl ?_
   iterate 13 (refine PI ?_ (hy:=fun w0 hS0=>by subst hS0; go_simp; try with_reducible rfl))
   refine bk (by kernel_rfl) ?_ _;intro w1 cm;subst cm;clear mo0;go_wp2_with (at_builtin; first | (refine br _ rfl _ _ 30 rfl _ _ _ _ rfl rfl hap ?_; clear hap) | (refine br _ rfl _ _ 30 rfl _ _ _ _ rfl rfl gT ?_; clear gT))
   go_round
   case rel=>exact ⟨k+1,true,acc ++ [(⟨⟨z.id,z.I,z.Mf,z.max,[]⟩,none,0⟩:aM)] ++ [y],a7,c7,by omega,by go_num,rfl,by simp,⟨HL7.I,HA.I.2.here HY.I HC.I⟩⟩
   case measure=>simp [Go.RowKit.intOf]; omega
  have i1: ¬ (k:Int) < (q.ai.length:Int):=by omega
  have hbr:=HA.I.1.cd;cases dn
  ·obtain ⟨a9,c9,w9,hap,Jy⟩:=HA.I.1.add 30 48 (P:=J3) Qu na rfl (by decide) (by decide) (⟨⟨z.id,z.I,z.Mf,z.max,[]⟩,none,0⟩:aM) #[.int .i64 z.id,.bool z.I,.bool z.Mf,.int .i64 z.max,.slice none 0 0] rfl qX (by omega)
   have HR:Hid (fy bX 61 #[.int .i64 z.id,.bool z.I,.bool z.Mf,.int .i64 z.max,.slice none 0 0] W2 w9 (acc ++ [(⟨⟨z.id,z.I,z.Mf,z.max,[]⟩,none,0⟩:aM)]) a9 c9∧acc ++ [(⟨⟨z.id,z.I,z.Mf,z.max,[]⟩,none,0⟩:aM)] =bY (fun y:aM=>y.id) (⟨⟨z.id,z.I,z.Mf,z.max,[]⟩,none,0⟩:aM) q.ai∧(acc ++ [(⟨⟨z.id,z.I,z.Mf,z.max,[]⟩,none,0⟩:aM)]).length=acc.length+1):=⟨Jy,HA.I.2.last hlt,by simp⟩
   obtain ⟨x0,x1,x2,x3,x4⟩:=gE (x:=(⟨⟨z.id,z.I,z.Mf,z.max,[]⟩,none,0⟩:aM)) (X:=o+1+1) (W:=wr) (by rw [← HW.I]; exact HA.I.1.box);simp only [K4] at x0 x1 x2 x3 x4;clear Jy;have eX:Hid (_):=DY HB.I HQ.I Au.I HR.I.1 HR.I.2.1 HR.I.2.2 rfl (fun g hg=>by cases hg) (Ke _ _ _ _);have Mb:=fi p ({ q with ai:=(acc ++ [(⟨⟨z.id,z.I,z.Mf,z.max,[]⟩,none,0⟩:aM)]),aK:=a9,aV:=c9 } :af) (w9.setCell ⟨o,7,none⟩ (.slice a9 (acc.length+1) c9)) ⟨fl.I.1,fl.I.2.1,eX.I.1.2.1.at⟩ (fun hr=>by
    have h5:aE.Small ({ q with ai:=(acc ++ [(⟨⟨z.id,z.I,z.Mf,z.max,[]⟩,none,0⟩:aM)]),aK:=a9,aV:=c9 } :af).pure:=by rw [eX.I.2.2.2]; exact pU fl.I.2.2.1 hr ⟨fl.I.2.2.2,Ky _,(fun s hs=>by cases hs)⟩
    exact ⟨dV h5,fun x hx=>(cY h5 hx).1,eX.I.2.2.1.at⟩)
   obtain ⟨m0,m1,m2,m3,m4,m5,m6,m7⟩:=eX.I.1.1.cells;obtain ⟨k0,k1,k2,k3,k4,k5,k6,k7⟩:=eX.I.2.1.cells;obtain ⟨⟨u,co⟩,fo⟩:(∃ u,w9.cell? ⟨o,7,none⟩=some u)∧w9.frozen? ⟨o,7,none⟩=false:=⟨⟨_,(HQ.I.1.below HR.I.1.cd).cells.2.2.2.2.2.2.2⟩,Ko _ _ _ _ _ (HQ.I.1.below HR.I.1.cd)⟩
   unfold af.cells at Mb;have sR:=HR.I.2.2;simp only [sR] at Mb k0 k1 k2 k3 k4 k5 k6 k7;clear sR;go_wp2_with (at_builtin; first | (refine br _ rfl _ _ 30 rfl _ _ _ _ rfl rfl hap ?_; clear hap));refine Mb.mono ?_;clear Mb m0 m1 m2 m3 m4 m5 m6 m7 k0 k1 k2 k3 k4 k5 k6 k7;rintro e ow ⟨gy,hok⟩;have hq:=HQ.I.2.2.2.2;have HZ:Hid (Below w.heap.size w ow∧ow.heap[w.heap.size+1+1]? =some (.cells ar 32 (0,0))∧ap ow W.heap.size ({ q with ai:=(acc ++ [(⟨⟨z.id,z.I,z.Mf,z.max,[]⟩,none,0⟩:aM)]),aK:=a9,aV:=c9 } :af)∧w.heap.size+1+1 < W.heap.size):=⟨eX.I.1.2.2.1.trans (gy.mono eX.I.1.2.2.1.size),(gy.block _ (J2.1 eX.I.1.2.2.2).1).trans eX.I.1.2.2.2,eX.I.2.2.1.below gy,hq.2.1⟩
   clear gy hq;rw [eX.I.2.2.2] at hok;rcases hok with ⟨hok,rfl⟩ | ⟨hok,rfl⟩
   ·have HN:Hid (cB p.pure { p.pure with ai:=bY (·.id) (⟨z.id,z.I,z.Mf,z.max,[]⟩:dS) p.pure.ai } =some { p.pure with ai:=bY (·.id) (⟨z.id,z.I,z.Mf,z.max,[]⟩:dS) p.pure.ai }):=jS hok
    clear hok;go_wp2_with (refine ec 4 66 #[.int .i64 q.id,.int .i64 q.next,.slice q.aN q.L8.length q.aW,.slice q.bc q.aj.length q.bF,.slice q.ay q.L9.length q.aO,.slice q.ax q.ag.length q.aP,.slice q.am q.ae.length q.aG,.slice a9 (acc.length+1) c9] HZ.I.2.1 ?_);refine mG RN (.bool true) HZ.I.2.1 ?_;have hl:=HZ.I.2.2.2;rw [HN.I];refine ⟨({ q with ai:=(acc ++ [(⟨⟨z.id,z.I,z.Mf,z.max,[]⟩,none,0⟩:aM)]),aK:=a9,aV:=c9 } :af),by unfold af.cells; simp only [HR.I.2.2]; rfl,(HZ.I.2.2.1.lower (by omega)).same fun g hg=>KH _ _ _ _ (by have:=(HZ.I.2.2.1.lt g hg).1; omega),eX.I.2.2.2,below_setRow HZ.I.1 (by omega) _⟩
   ·have HN:Hid (cB p.pure { p.pure with ai:=bY (·.id) (⟨z.id,z.I,z.Mf,z.max,[]⟩:dS) p.pure.ai } =none):=jh hok
    clear hok;go_wp2_with (refine ec 4 66 ar HZ.I.2.1 ?_);refine mG RN (.bool false) HZ.I.2.1 ?_;exact ca HN.I (below_setRow HZ.I.1 (by omega) _)
  ·have HR:Hid (fy bX 61 #[.int .i64 z.id,.bool z.I,.bool z.Mf,.int .i64 z.max,.slice none 0 0] W2 wr acc a c∧acc=bY (fun y:aM=>y.id) (⟨⟨z.id,z.I,z.Mf,z.max,[]⟩,none,0⟩:aM) q.ai∧acc.length=acc.length):=⟨HA.I.1,HA.I.2.done hlt,rfl⟩
   have eX:Hid (_):=DY HB.I HQ.I Au.I HR.I.1 HR.I.2.1 HR.I.2.2 rfl (fun g hg=>by cases hg) (Ke _ _ _ _);have Mb:=fi p ({ q with ai:=acc,aK:=a,aV:=c } :af) (wr.setCell ⟨o,7,none⟩ (.slice a acc.length c)) ⟨fl.I.1,fl.I.2.1,eX.I.1.2.1.at⟩ (fun hr=>by
    have h5:aE.Small ({ q with ai:=acc,aK:=a,aV:=c } :af).pure:=by rw [eX.I.2.2.2]; exact pU fl.I.2.2.1 hr ⟨fl.I.2.2.2,Ky _,(fun s hs=>by cases hs)⟩
    exact ⟨dV h5,fun x hx=>(cY h5 hx).1,eX.I.2.2.1.at⟩)
   obtain ⟨m0,m1,m2,m3,m4,m5,m6,m7⟩:=eX.I.1.1.cells;obtain ⟨k0,k1,k2,k3,k4,k5,k6,k7⟩:=eX.I.2.1.cells;obtain ⟨⟨u,co⟩,fo⟩:(∃ u,wr.cell? ⟨o,7,none⟩=some u)∧wr.frozen? ⟨o,7,none⟩=false:=⟨⟨_,(HQ.I.1.below HR.I.1.cd).cells.2.2.2.2.2.2.2⟩,Ko _ _ _ _ _ (HQ.I.1.below HR.I.1.cd)⟩
   unfold af.cells at Mb;simp only at Mb k0 k1 k2 k3 k4 k5 k6 k7;go_wp2_with fail;refine Mb.mono ?_;clear Mb m0 m1 m2 m3 m4 m5 m6 m7 k0 k1 k2 k3 k4 k5 k6 k7;rintro e ow ⟨gy,hok⟩;have hq:=HQ.I.2.2.2.2;have HZ:Hid (Below w.heap.size w ow∧ow.heap[w.heap.size+1+1]? =some (.cells ar 32 (0,0))∧ap ow W.heap.size ({ q with ai:=acc,aK:=a,aV:=c } :af)∧w.heap.size+1+1 < W.heap.size):=⟨eX.I.1.2.2.1.trans (gy.mono eX.I.1.2.2.1.size),(gy.block _ (J2.1 eX.I.1.2.2.2).1).trans eX.I.1.2.2.2,eX.I.2.2.1.below gy,hq.2.1⟩
   clear gy hq;rw [eX.I.2.2.2] at hok;rcases hok with ⟨hok,rfl⟩ | ⟨hok,rfl⟩
   ·have HN:Hid (cB p.pure { p.pure with ai:=bY (·.id) (⟨z.id,z.I,z.Mf,z.max,[]⟩:dS) p.pure.ai } =some { p.pure with ai:=bY (·.id) (⟨z.id,z.I,z.Mf,z.max,[]⟩:dS) p.pure.ai }):=jS hok
    clear hok;go_wp2_with (refine ec 4 66 #[.int .i64 q.id,.int .i64 q.next,.slice q.aN q.L8.length q.aW,.slice q.bc q.aj.length q.bF,.slice q.ay q.L9.length q.aO,.slice q.ax q.ag.length q.aP,.slice q.am q.ae.length q.aG,.slice a acc.length c] HZ.I.2.1 ?_);refine mG RN (.bool true) HZ.I.2.1 ?_;have hl:=HZ.I.2.2.2;rw [HN.I];refine ⟨({ q with ai:=acc,aK:=a,aV:=c } :af),by rfl,(HZ.I.2.2.1.lower (by omega)).same fun g hg=>KH _ _ _ _ (by have:=(HZ.I.2.2.1.lt g hg).1; omega),eX.I.2.2.2,below_setRow HZ.I.1 (by omega) _⟩
   ·have HN:Hid (cB p.pure { p.pure with ai:=bY (·.id) (⟨z.id,z.I,z.Mf,z.max,[]⟩:dS) p.pure.ai } =none):=jh hok
    clear hok;go_wp2_with (refine ec 4 66 ar HZ.I.2.1 ?_);refine mG RN (.bool false) HZ.I.2.1 ?_;exact ca HN.I (below_setRow HZ.I.1 (by omega) _)
end Go.Proofs.YtkbcplnlehdjfaaGreat
