/- What the proof leans on, part 29: WithBufferS, TkR4, WkWake. -/
import Derived.Test.YtkbcplnlehdjfaaGreatOwnB18
import Derived.Test.YtkbcplnlehdjfaaGreatOwnB23
import Derived.Test.YtkbcplnlehdjfaaGreatOwnB26
import Derived.Test.YtkbcplnlehdjfaaGreatOwnB27
set_option maxRecDepth 100000
set_option maxHeartbeats 8000000

namespace Go.Proofs.YtkbcplnlehdjfaaGreat
open Go.RowKit Go.Maps
attribute [local go_sem ↓] Go.wp_at_zero Go.wp_at_succ
theorem xS {p q:af} {w W W2 w9:World} {o b0 n9 c9:Nat} {x:au} {xp:cj} {XV:Array Value} {acc:List au} {a9:Option Addr} (hB:av W2 w.heap.size p∧ap W2 b0 p∧Below w.heap.size w W2∧W2.heap[w.heap.size+1]? =some (.cells ar 32 (0,0)))
  (hQ:av W2 o q∧ap W2 W.heap.size q∧q.pure=p.pure∧(∀ g∈q.blocks,g < o)∧W.heap.size≤o∧w.heap.size+1 < W.heap.size∧o < W2.heap.size) (hpb: ∀ g∈p.blocks,g < w.heap.size) (hl:fy bn 144 XV W2 w9 acc a9 c9) (ha:acc=bX (fun y:au=>y.id) x q.ae) (hn:acc.length=n9) (hx:x.tocj=xp)
  (hk: ∀ g,aC.bt x=some g→g∉q.blocks∧g≠o) (hm:aC.cO W2 W.heap.size x):
  (av (w9.setCell ⟨o,6,none⟩ (.slice a9 n9 c9)) w.heap.size p∧ap (w9.setCell ⟨o,6,none⟩ (.slice a9 n9 c9)) b0 p∧Below w.heap.size w (w9.setCell ⟨o,6,none⟩ (.slice a9 n9 c9))∧(w9.setCell ⟨o,6,none⟩ (.slice a9 n9 c9)).heap[w.heap.size+1]? =some (.cells ar 32 (0,0)))∧av (w9.setCell ⟨o,6,none⟩ (.slice a9 n9 c9)) o ({ q with ae:=acc,am:=a9,aG:=c9 } :af)∧ap (w9.setCell ⟨o,6,none⟩ (.slice a9 n9 c9)) W.heap.size ({ q with ae:=acc,am:=a9,aG:=c9 } :af)∧({ q with ae:=acc,am:=a9,aG:=c9 } :af).pure= { p.pure with ae:=bX (·.id) xp p.pure.ae } :=by
 have hb:=hl.cd
 have nV:=hQ.2.2.2.1
 have sm: ∀ g,g < W2.heap.size→g≠o→(w9.setCell ⟨o,6,none⟩ (.slice a9 n9 c9)).heap[g]? =W2.heap[g]? :=fun g hg hne=>(aH hne).trans (hb.block _ hg)
 have lV:Below w.heap.size w (w9.setCell ⟨o,6,none⟩ (.slice a9 n9 c9)):=bP (hB.2.2.1.trans (hb.mono (by omega))) (by omega)
 have iI: ∀ g∈acc.filterMap aC.bt,g∈q.ae.filterMap aC.bt∨aC.bt x=some g:=fun g hg=>by
  obtain ⟨z,hz,he⟩:=List.mem_filterMap.1 hg
  rw [ha] at hz
  rcases fp.1 hz with rfl | hz
  ·exact .inr he
  ·exact .inl (List.mem_filterMap.2 ⟨z,hz,he⟩)
 have hin: ∀ g∈q.ae.filterMap aC.bt,g∈q.blocks:=fun g hg=>by simp only [af.blocks,List.mem_append]; simp [hg]
 refine ⟨⟨(sm _ (by omega) (by omega)).trans hB.1,hB.2.1.same fun g hg=>sm g (by have:=hpb g hg; omega) (by have:=hpb g hg; omega),lV,(sm _ (by omega) (by omega)).trans hB.2.2.2⟩,?_,?_,?_⟩
 ·have h5:=cw (i:=6) (v:= .slice a9 n9 c9) ((hb.block _ hQ.2.2.2.2.2.2).trans hQ.1)
  unfold av
  simp only [hn]
  exact h5
 ·refine hQ.2.1.Ek (B:=W2.heap.size) (by omega) (fun g hg=>by have:=nV g hg; omega) (fun g hg=>sm g (by have:=nV g hg; omega) (by have:=nV g hg; omega)) ?_ (fun z hz=> ?_) ?_ (fun g hg=> ?_) (fun g hg=> ?_)
  ·exact aL hl.own fun g hg=>aH (by have:=(cf hl.own hg).1; omega)
  ·rw [ha] at hz
   rcases fp.1 hz with rfl | hz
   ·exact hm.same fun g hg=>sm g (hm.lt hg).2 (hk g hg).2
   ·refine (hQ.2.1.eG z hz).same fun g hg=> ?_
    have h5:=nV g (hin g (List.mem_filterMap.2 ⟨z,hz,hg⟩))
    exact sm g (by omega) (by omega)
  ·have h5:=hQ.2.1.nodup
   simp only [af.blocks,List.nodup_append] at h5
   have h6:(q.ae.filterMap aC.bt).Nodup:=h5.2.1.2.1.2.1.2.1.2.1.2.1.1
   have hp:(acc.filterMap aC.bt).Perm ((x :: q.ae).filterMap aC.bt):=by rw [ha]; exact (pk x _).filterMap _
   refine hp.nodup_iff.2 ?_
   cases he:aC.bt x with
   | none=>rw [List.filterMap_cons_none he]; exact h6
   | some g=>rw [List.filterMap_cons_some he]; exact List.nodup_cons.2 ⟨fun h7=>(hk g he).1 (hin g h7),h6⟩
  ·rcases iI g hg with h5 | h5
   ·exact .inl h5
   ·exact .inr (hk g h5).1
  ·rcases iI g hg with h5 | h5
   ·have:=nV g (hin g h5); omega
   ·exact (hm.lt h5).2
 ·show ({ q.pure with ae:=acc.map (·.tocj) } :aE)=_
  have e1:q.ae.map (·.tocj)=p.pure.ae:=congrArg aE.ae hQ.2.2.1
  rw [ha,rc (jd:=(·.id)) (fun y:au=>y.tocj) (fun _=>rfl),e1,hx,hQ.2.2.1]
theorem qw (p:af) (id most:Int) (w:World) (b0:Nat) (hwf:(Lit.int .i64 id).wf=true) (re:p.pure.Small) (h:ap w b0 p):
  Calls Tryz.prog 43 #[.agg p.cells,.int .i64 id,.int .i64 most] w fun e w'=>gK w (cB p.pure { p.pure with ae:=bX (·.id) (⟨id,most,[]⟩:cj) p.pure.ae }) e w':=by
 have HB:Hid (av ((w.alloc (.cells p.row 32)).alloc (.cells ar 32)) w.heap.size p∧ap ((w.alloc (.cells p.row 32)).alloc (.cells ar 32)) b0 p∧Below w.heap.size w ((w.alloc (.cells p.row 32)).alloc (.cells ar 32))∧((w.alloc (.cells p.row 32)).alloc (.cells ar 32)).heap[w.heap.size+1]? =some (.cells ar 32 (0,0))):=by
  have b1:Below w.heap.size w ((w.alloc (.cells p.row 32)).alloc (.cells ar 32)):=((Below.refl _ _).alloc (Nat.le_refl _) _).alloc (by simp) _
  exact ⟨(heap_alloc_old _ _ (by simp)).trans (heap_alloc_new _ _),h.below b1,b1,heap_alloc2_new _ _ _⟩
 have fl:Hid (p.Fit∧(∀ x∈p.procs,x.dV)∧p.pure.Small∧(Lit.int .i64 id).wf=true):=⟨dY re,fun x hx=>(cW re hx).1,re,hwf⟩
 have hpl:p.ae.length≤1048576:=fl.out.1.short.ae
 have oR: ∀ g∈p.blocks,g < w.heap.size:=fun g hg=>(h.lt g hg).2
 clear h re hwf
 obtain ⟨m0,m1,m2,m3,m4,m5,m6,m7⟩:=HB.out.1.cells
 unfold af.cells
 go_enter Tryz.func43,Tryz.ntmps43
 go_wp2_with fail
 generalize (w.alloc (.cells p.row 32)).alloc (.cells ar 32)=W at *
 clear m0 m1 m2 m3 m4 m5 m6 m7
 refine (fO p W fl.out.1 fl.out.2.1 HB.out.2.1.at).mono ?_
 rintro e W1 ⟨q,rfl,hown,gm,hb1⟩
 have hb2:Below W1.heap.size W1 (W1.alloc (.cells q.row 32)):=(Below.refl _ _).alloc (Nat.le_refl _) _
 have hlt:w.heap.size+1 < W.heap.size:=(Array.getElem?_eq_some_iff.1 HB.out.2.2.2).1
 have hb3:Below W.heap.size W (W1.alloc (.cells q.row 32)):=hb1.trans (hb2.mono hb1.size)
 have hq1: ∀ g∈q.blocks,g < W1.heap.size:=fun g hg=>(hown.lt g hg).2
 have hql:q.ae.length≤1048576:=by have e1:=congrArg (fun z=>z.ae.length) gm; simp only [af.pure,List.length_map] at e1; omega
 have HQ:Hid (av (W1.alloc (.cells q.row 32)) W1.heap.size q∧ap (W1.alloc (.cells q.row 32)) W.heap.size q∧q.pure=p.pure∧(∀ g∈q.blocks,g < W1.heap.size)∧W.heap.size≤W1.heap.size∧w.heap.size+1 < W.heap.size∧W1.heap.size < (W1.alloc (.cells q.row 32)).heap.size):=⟨heap_alloc_new _ _,hown.below hb2,gm,hq1,hb1.size,hlt,by simp⟩
 replace HB:Hid (av (W1.alloc (.cells q.row 32)) w.heap.size p∧ap (W1.alloc (.cells q.row 32)) b0 p∧Below w.heap.size w (W1.alloc (.cells q.row 32))∧(W1.alloc (.cells q.row 32)).heap[w.heap.size+1]? =some (.cells ar 32 (0,0))):=⟨HB.out.1.below hb3,HB.out.2.1.below hb3,HB.out.2.2.1.trans (hb3.mono HB.out.2.2.1.size),(hb3.block _ hlt).trans HB.out.2.2.2⟩
 have zY:Hid (∀ g∈p.blocks,g < w.heap.size):=fun g hg=>oR g hg
 clear hown gm hb1 hb2 hb3 hq1 hlt oR
 have Et:Hid (fy bn 144 #[.int .i64 id,.int .i64 most,.slice none 0 0] (W1.alloc (.cells q.row 32)) (((W1.alloc (.cells q.row 32)).alloc (.cells #[] 144)).alloc (.cells #[.int .i64 id,.int .i64 most,.slice none 0 0] 144)) [] (some ⟨(W1.alloc (.cells q.row 32)).heap.size,0,none⟩) 0):=fy.start
 have Hx:(W1.alloc (.cells q.row 32)).heap.size=W1.heap.size+1:=by simp
 have HW:Hid ((W1.alloc (.cells q.row 32)).heap.size=W1.heap.size+1):=Hx
 clear Hx
 unfold af.cells
 go_wp2_with fail
 generalize W1.alloc (.cells q.row 32)=W2 at *
 generalize W1.heap.size=o at *
 go_loopw [9,11,12] (fun l d i wr=> ∃ (k:Nat) (dn:Bool) (acc:List au) (a:Option Addr) (c:Nat),k≤q.ae.length∧i= .int .i64 k∧d= .bool dn∧l= .slice a acc.length c∧Hid (fy bn 144 #[.int .i64 id,.int .i64 most,.slice none 0 0] W2 wr acc a c∧gT (fun y:au=>y.id) (⟨⟨id,most,[]⟩,none,0⟩:au) q.ae k dn acc)) (fun _ _ i _=>q.ae.length - (Go.RowKit.intOf i).toNat)
 case atStart=>exact ⟨0,false,[],some ⟨W2.heap.size,0,none⟩,0,Nat.zero_le _,rfl,rfl,by rw [HW.out]; rfl,⟨Et.out,gT.start _ _⟩⟩
 case round=>
  obtain ⟨k,dn,acc,a,c,hk,rfl,rfl,rfl,HA⟩:=hrel
  have i0:(0:Int)≤(k:Int):=by omega
  have hbr:=HA.out.1.cd
  have hal:=HA.out.2.le
  have mo:wr.cell? ⟨o,6,none⟩=some (.slice q.am q.ae.length q.aG):=(HQ.out.1.below hbr).cells.2.2.2.2.2.2.1
  by_cases hlt:k < q.ae.length
  ·have i1:(k:Int) < (q.ae.length:Int):=by omega
   obtain ⟨y,hy⟩: ∃ y,q.ae[k]? =some y:=⟨_,List.getElem?_eq_getElem hlt⟩
   have HY:Hid (q.ae[k]? =some y):=hy
   obtain ⟨g,ha,hat⟩:=iC (HQ.out.2.1.below hbr).at.2.2.2.2.1 hy
   rw [ha] at mo
   obtain ⟨d0,d1,d2⟩:=hat
   have HG:Hid (q.am=some ⟨g,0,none⟩):=ha
   clear ha hy
   obtain ⟨a5,c5,w5,hap,rN⟩:=HA.out.1.add 29 40 (P:=Tryz.prog) Tryz.underlying29 kj rfl (by decide) (by decide) y #[.int .i64 y.id,.int .i64 y.max,.slice y.ak y.items.length y.aq] rfl nS (by omega)
   have Gn:Hid (fy bn 144 #[.int .i64 id,.int .i64 most,.slice none 0 0] W2 w5 (acc ++ [y]) a5 c5):=rN
   clear rN
   cases dn
   rotate_left
   ·go_wp2_with (at_builtin; first | (refine br _ rfl _ _ 29 rfl _ _ _ _ rfl rfl hap ?_; clear hap))
    go_round
    case rel=>exact ⟨k+1,true,acc ++ [y],a5,c5,by omega,by go_num,rfl,by simp,⟨Gn.out,HA.out.2.on HY.out⟩⟩
    case measure=>simp [Go.RowKit.intOf]; omega
   by_cases hc:id < y.id
   rotate_left
   ·have HC:Hid (¬ id < y.id):=hc
    go_wp2_with (at_builtin; first | (refine br _ rfl _ _ 29 rfl _ _ _ _ rfl rfl hap ?_; clear hap))
    go_round
    case rel=>exact ⟨k+1,false,acc ++ [y],a5,c5,by omega,by go_num,rfl,by simp,⟨Gn.out,HA.out.2.past HY.out HC.out⟩⟩
    case measure=>simp [Go.RowKit.intOf]; omega
   clear hap Gn a5 c5 w5
   have HC:Hid (id < y.id):=hc
   obtain ⟨a5,c5,w5,hap,rN⟩:=HA.out.1.add 29 40 (P:=Tryz.prog) Tryz.underlying29 kj rfl (by decide) (by decide) (⟨⟨id,most,[]⟩,none,0⟩:au) #[.int .i64 id,.int .i64 most,.slice none 0 0] rfl nS (by omega)
   obtain ⟨a7,c7,w7,gZ,mG⟩:=rN.add 29 40 (P:=Tryz.prog) Tryz.underlying29 kj rfl (by decide) (by decide) y #[.int .i64 y.id,.int .i64 y.max,.slice y.ak y.items.length y.aq] rfl nS (by simp; omega)
   rw [List.length_append] at gZ
   simp only [List.length_cons,List.length_nil,Nat.zero_add] at gZ
   have HL7:Hid (fy bn 144 #[.int .i64 id,.int .i64 most,.slice none 0 0] W2 w7 (acc ++ [(⟨⟨id,most,[]⟩,none,0⟩:au)] ++ [y]) a7 c7):=mG
   have mo5:w5.cell? ⟨o,6,none⟩=some (.slice q.am q.ae.length q.aG):=(HQ.out.1.below rN.cd).cells.2.2.2.2.2.2.1
   obtain ⟨g2,ha2,g8⟩:=iC (HQ.out.2.1.below rN.cd).at.2.2.2.2.1 HY.out
   rw [HG.out] at ha2 mo5
   cases ha2
   obtain ⟨e0,e1,e2⟩:=g8
   obtain ⟨x0,x1,x2⟩:=ib (x:=(⟨⟨id,most,[]⟩,none,0⟩:au)) (X:=o+1+1) (W:=wr) (by rw [← HW.out]; exact HA.out.1.box)
   clear rN mG
   simp only [List.length_nil] at *
   go_wp2_with (at_builtin; first | (refine br _ rfl _ _ 29 rfl _ _ _ _ rfl rfl hap ?_; clear hap) | (refine br _ rfl _ _ 29 rfl _ _ _ _ rfl rfl gZ ?_; clear gZ))
   go_round
   case rel=>exact ⟨k+1,true,acc ++ [(⟨⟨id,most,[]⟩,none,0⟩:au)] ++ [y],a7,c7,by omega,by go_num,rfl,by simp,⟨HL7.out,HA.out.2.here HY.out HC.out⟩⟩
   case measure=>simp [Go.RowKit.intOf]; omega
  have i1: ¬ (k:Int) < (q.ae.length:Int):=by omega
  cases dn
  ·obtain ⟨a9,c9,w9,hap,Jx⟩:=HA.out.1.add 29 40 (P:=Tryz.prog) Tryz.underlying29 kj rfl (by decide) (by decide) (⟨⟨id,most,[]⟩,none,0⟩:au) #[.int .i64 id,.int .i64 most,.slice none 0 0] rfl nS (by omega)
   have HR:Hid (fy bn 144 #[.int .i64 id,.int .i64 most,.slice none 0 0] W2 w9 (acc ++ [(⟨⟨id,most,[]⟩,none,0⟩:au)]) a9 c9∧acc ++ [(⟨⟨id,most,[]⟩,none,0⟩:au)] =bX (fun y:au=>y.id) (⟨⟨id,most,[]⟩,none,0⟩:au) q.ae∧(acc ++ [(⟨⟨id,most,[]⟩,none,0⟩:au)]).length=acc.length+1):=⟨Jx,HA.out.2.last hlt,by simp⟩
   obtain ⟨x0,x1,x2⟩:=ib (x:=(⟨⟨id,most,[]⟩,none,0⟩:au)) (X:=o+1+1) (W:=wr) (by rw [← HW.out]; exact HA.out.1.box)
   simp only [List.length_nil] at x0 x1 x2
   clear Jx
   have eZ:Hid (_):=xS HB.out HQ.out zY.out HR.out.1 HR.out.2.1 HR.out.2.2 rfl (fun g hg=>by cases hg) (World.ownsRow_nil _ _ _ _)
   have hcall:=fj p ({ q with ae:=(acc ++ [(⟨⟨id,most,[]⟩,none,0⟩:au)]),am:=a9,aG:=c9 } :af) (w9.setCell ⟨o,6,none⟩ (.slice a9 (acc.length+1) c9)) ⟨fl.out.1,fl.out.2.1,eZ.out.1.2.1.at⟩ (fun hr=>by
    have h5:aE.Small ({ q with ae:=(acc ++ [(⟨⟨id,most,[]⟩,none,0⟩:au)]),am:=a9,aG:=c9 } :af).pure:=by rw [eZ.out.2.2.2]; exact oa fl.out.2.2.1 hr ⟨fl.out.2.2.2,Nat.zero_le _,(fun s hs=>by cases hs)⟩
    exact ⟨dY h5,fun x hx=>(cW h5 hx).1,eZ.out.2.2.1.at⟩)
   obtain ⟨m0,m1,m2,m3,m4,m5,m6,m7⟩:=eZ.out.1.1.cells
   obtain ⟨k0,k1,k2,k3,k4,k5,k6,k7⟩:=eZ.out.2.1.cells
   obtain ⟨⟨u,co⟩,fo⟩:(∃ u,w9.cell? ⟨o,6,none⟩=some u)∧w9.frozen? ⟨o,6,none⟩=false:=⟨⟨_,(HQ.out.1.below HR.out.1.cd).cells.2.2.2.2.2.2.1⟩,frozen_of_row _ _ _ _ _ (HQ.out.1.below HR.out.1.cd)⟩
   unfold af.cells at hcall
   have ti:=HR.out.2.2
   simp only [ti] at hcall k0 k1 k2 k3 k4 k5 k6 k7
   clear ti
   go_wp2_with (at_builtin; first | (refine br _ rfl _ _ 29 rfl _ _ _ _ rfl rfl hap ?_; clear hap))
   refine hcall.mono ?_
   clear hcall m0 m1 m2 m3 m4 m5 m6 m7 k0 k1 k2 k3 k4 k5 k6 k7
   rintro e oB ⟨gv,hok⟩
   have hq:=HQ.out.2.2.2.2
   have HZ:Hid (Below w.heap.size w oB∧oB.heap[w.heap.size+1]? =some (.cells ar 32 (0,0))∧ap oB W.heap.size ({ q with ae:=(acc ++ [(⟨⟨id,most,[]⟩,none,0⟩:au)]),am:=a9,aG:=c9 } :af)∧w.heap.size+1 < W.heap.size):=⟨eZ.out.1.2.2.1.trans (gv.mono eZ.out.1.2.2.1.size),(gv.block _ (Array.getElem?_eq_some_iff.1 eZ.out.1.2.2.2).1).trans eZ.out.1.2.2.2,eZ.out.2.2.1.below gv,hq.2.1⟩
   clear gv hq
   rw [eZ.out.2.2.2] at hok
   rcases hok with ⟨hok,rfl⟩ | ⟨hok,rfl⟩
   ·have HN:Hid (cB p.pure { p.pure with ae:=bX (·.id) (⟨id,most,[]⟩:cj) p.pure.ae } =some { p.pure with ae:=bX (·.id) (⟨id,most,[]⟩:cj) p.pure.ae }):=jX hok
    clear hok
    go_wp2_with (refine dZ 6 61 (w.heap.size+1) #[.int .i64 q.id,.int .i64 q.next,.slice q.aN q.procs.length q.aW,.slice q.bc q.aj.length q.bF,.slice q.ay q.events.length q.aO,.slice q.ax q.ag.length q.aP,.slice a9 (acc.length+1) c9,.slice q.aK q.ai.length q.aV] HZ.out.2.1 ?_)
    refine mK Tryz.results43 (w.heap.size+1) #[.int .i64 q.id,.int .i64 q.next,.slice q.aN q.procs.length q.aW,.slice q.bc q.aj.length q.bF,.slice q.ay q.events.length q.aO,.slice q.ax q.ag.length q.aP,.slice a9 (acc.length+1) c9,.slice q.aK q.ai.length q.aV] (.bool true) HZ.out.2.1 ?_
    have hl:=HZ.out.2.2.2
    rw [HN.out]
    refine ⟨({ q with ae:=(acc ++ [(⟨⟨id,most,[]⟩,none,0⟩:au)]),am:=a9,aG:=c9 } :af),by unfold af.cells; simp only [HR.out.2.2]; rfl,(HZ.out.2.2.1.lower (by omega)).same fun g hg=>setRow_other _ _ _ _ (by have:=(HZ.out.2.2.1.lt g hg).1; omega),eZ.out.2.2.2,below_setRow HZ.out.1 (by omega) _⟩
   ·have HN:Hid (cB p.pure { p.pure with ae:=bX (·.id) (⟨id,most,[]⟩:cj) p.pure.ae } =none):=jj hok
    clear hok
    go_wp2_with (refine dZ 6 61 (w.heap.size+1) ar HZ.out.2.1 ?_)
    refine mK Tryz.results43 (w.heap.size+1) ar (.bool false) HZ.out.2.1 ?_
    exact ca HN.out (below_setRow HZ.out.1 (by omega) _)
  ·have HR:Hid (fy bn 144 #[.int .i64 id,.int .i64 most,.slice none 0 0] W2 wr acc a c∧acc=bX (fun y:au=>y.id) (⟨⟨id,most,[]⟩,none,0⟩:au) q.ae∧acc.length=acc.length):=⟨HA.out.1,HA.out.2.done hlt,rfl⟩
   have eZ:Hid (_):=xS HB.out HQ.out zY.out HR.out.1 HR.out.2.1 HR.out.2.2 rfl (fun g hg=>by cases hg) (World.ownsRow_nil _ _ _ _)
   have hcall:=fj p ({ q with ae:=acc,am:=a,aG:=c } :af) (wr.setCell ⟨o,6,none⟩ (.slice a acc.length c)) ⟨fl.out.1,fl.out.2.1,eZ.out.1.2.1.at⟩ (fun hr=>by
    have h5:aE.Small ({ q with ae:=acc,am:=a,aG:=c } :af).pure:=by rw [eZ.out.2.2.2]; exact oa fl.out.2.2.1 hr ⟨fl.out.2.2.2,Nat.zero_le _,(fun s hs=>by cases hs)⟩
    exact ⟨dY h5,fun x hx=>(cW h5 hx).1,eZ.out.2.2.1.at⟩)
   obtain ⟨m0,m1,m2,m3,m4,m5,m6,m7⟩:=eZ.out.1.1.cells
   obtain ⟨k0,k1,k2,k3,k4,k5,k6,k7⟩:=eZ.out.2.1.cells
   obtain ⟨⟨u,co⟩,fo⟩:(∃ u,wr.cell? ⟨o,6,none⟩=some u)∧wr.frozen? ⟨o,6,none⟩=false:=⟨⟨_,(HQ.out.1.below HR.out.1.cd).cells.2.2.2.2.2.2.1⟩,frozen_of_row _ _ _ _ _ (HQ.out.1.below HR.out.1.cd)⟩
   unfold af.cells at hcall
   simp only at hcall k0 k1 k2 k3 k4 k5 k6 k7
   go_wp2_with fail
   refine hcall.mono ?_
   clear hcall m0 m1 m2 m3 m4 m5 m6 m7 k0 k1 k2 k3 k4 k5 k6 k7
   rintro e oB ⟨gv,hok⟩
   have hq:=HQ.out.2.2.2.2
   have HZ:Hid (Below w.heap.size w oB∧oB.heap[w.heap.size+1]? =some (.cells ar 32 (0,0))∧ap oB W.heap.size ({ q with ae:=acc,am:=a,aG:=c } :af)∧w.heap.size+1 < W.heap.size):=⟨eZ.out.1.2.2.1.trans (gv.mono eZ.out.1.2.2.1.size),(gv.block _ (Array.getElem?_eq_some_iff.1 eZ.out.1.2.2.2).1).trans eZ.out.1.2.2.2,eZ.out.2.2.1.below gv,hq.2.1⟩
   clear gv hq
   rw [eZ.out.2.2.2] at hok
   rcases hok with ⟨hok,rfl⟩ | ⟨hok,rfl⟩
   ·have HN:Hid (cB p.pure { p.pure with ae:=bX (·.id) (⟨id,most,[]⟩:cj) p.pure.ae } =some { p.pure with ae:=bX (·.id) (⟨id,most,[]⟩:cj) p.pure.ae }):=jX hok
    clear hok
    go_wp2_with (refine dZ 6 61 (w.heap.size+1) #[.int .i64 q.id,.int .i64 q.next,.slice q.aN q.procs.length q.aW,.slice q.bc q.aj.length q.bF,.slice q.ay q.events.length q.aO,.slice q.ax q.ag.length q.aP,.slice a acc.length c,.slice q.aK q.ai.length q.aV] HZ.out.2.1 ?_)
    refine mK Tryz.results43 (w.heap.size+1) #[.int .i64 q.id,.int .i64 q.next,.slice q.aN q.procs.length q.aW,.slice q.bc q.aj.length q.bF,.slice q.ay q.events.length q.aO,.slice q.ax q.ag.length q.aP,.slice a acc.length c,.slice q.aK q.ai.length q.aV] (.bool true) HZ.out.2.1 ?_
    have hl:=HZ.out.2.2.2
    rw [HN.out]
    refine ⟨({ q with ae:=acc,am:=a,aG:=c } :af),by rfl,(HZ.out.2.2.1.lower (by omega)).same fun g hg=>setRow_other _ _ _ _ (by have:=(HZ.out.2.2.1.lt g hg).1; omega),eZ.out.2.2.2,below_setRow HZ.out.1 (by omega) _⟩
   ·have HN:Hid (cB p.pure { p.pure with ae:=bX (·.id) (⟨id,most,[]⟩:cj) p.pure.ae } =none):=jj hok
    clear hok
    go_wp2_with (refine dZ 6 61 (w.heap.size+1) ar HZ.out.2.1 ?_)
    refine mK Tryz.results43 (w.heap.size+1) ar (.bool false) HZ.out.2.1 ?_
    exact ca HN.out (below_setRow HZ.out.1 (by omega) _)
end Go.Proofs.YtkbcplnlehdjfaaGreat
namespace Go.Proofs.YtkbcplnlehdjfaaGreat
theorem dv {o:dN} (h:ku o=true):(1≤o.1∧o.1≤17)∧(¬ o.1=17→1≤o.2.1∧o.2.1≤1000)∧cv o.2.2.1 (-1) 1000=true∧bw o.2.2.2=true∧(¬ o.1=8→ ¬ o.1=10→ ¬ o.1=13→bI o.2.2.2=true):=by
 unfold ku mQ at h
 split at h
 ·simp only [Bool.and_eq_true,decide_eq_true_eq] at h
  have h1:=bz.1 h.1.1
  exact ⟨by omega,fun _=>h1,by rw [h.1.2]; rfl,by rw [empty_eq h.2]; rfl,fun _ _ _=>h.2⟩
 ·split at h
  ·simp only [Bool.and_eq_true] at h
   have h1:=bz.1 h.1.1
   exact ⟨by omega,fun _=>h1,h.1.2,by rw [empty_eq h.2]; rfl,fun _ _ _=>h.2⟩
  ·split at h
   ·simp only [Bool.and_eq_true] at h
    have h1:=bz.1 h.1.1
    exact ⟨by omega,fun _=>h1,h.1.2,h.2,fun e _ _=>by omega⟩
   ·split at h
    ·simp only [Bool.and_eq_true,decide_eq_true_eq] at h
     have h1:=bz.1 h.1.1
     exact ⟨by omega,fun _=>h1,by rw [h.1.2]; rfl,h.2,fun _ e1 e2=>by omega⟩
    ·split at h
     ·simp only [Bool.and_eq_true,decide_eq_true_eq] at h
      exact ⟨by omega,fun e=>by omega,by rw [h.1.2]; rfl,by rw [empty_eq h.2]; rfl,fun _ _ _=>h.2⟩
     ·cases h
theorem n7 (n:Int):n≤n∧n≤n+7:=by omega
def sM (p q:aE):Prop:=aQ q∧p.next≤q.next∧q.next≤p.next+7
section
variable {p:aE} {id now:Int} {o:dN}
theorem cP {code:Int} {q:aE} (h:aQ q) (hu:Up id q) (hc:cv code 0 3=true) (hn:p.next≤q.next∧q.next≤p.next+7):sM p (bu code id q):=⟨DH h hu hc,hn⟩
theorem A9 {st:Int} {q:aE} (h:aQ q) (hu:xj id q) (hq:q.next=p.next) (hn:p.next+1≤1000000000) (et:0≤now∧now≤1000000000) (hm:cv o.2.2.1 (-1) 1000=true)
  (hs:st=5∧bw o.2.2.2=true∨(st=3∨st=4∨st=6∨st=7)∧bI o.2.2.2=true) (hh:hasB q st o.2.1=true):sM p (nj st o now id q):=by
 have h1:=I9 (p:=q) (id:=id) (st:=st) (now:=now) (o:=o)
 exact ⟨Ge h hu (by omega) et hm hs hh,by omega,by omega⟩
theorem pu {s:bD} (h:aQ p) (hf:cg (·.id) o.2.1 p.aj=some s):hasB p 3 o.2.1=true∧0≤s.n∧s.n≤s.max:=by
 refine ⟨wa hf,?_⟩
 have h1:=(cJ h.aj s (kg hf).1).2
 unfold gy at h1
 simp only [Bool.and_eq_true] at h1
 exact bz.1 h1.2
theorem jh {b:cj} (h:aQ p) (hf:cg (·.id) o.2.1 p.ae=some b):hasB p 5 o.2.1=true∧hasB p 6 o.2.1=true∧(b.items.length:Int)≤b.max∧ ∀ t∈b.items,bw t=true:=by
 refine ⟨wa hf,wa hf,?_⟩
 have h1:=(cJ h.ae b (kg hf).1).2
 unfold ct at h1
 simp only [Bool.and_eq_true] at h1
 exact lB.1 h1.2
theorem nz {q:dP} (h:aQ p) (hf:cg (·.id) o.2.1 p.ai=some q):1≤q.max∧(q.items.length:Int)≤q.max∧ ∀ t∈q.items,bw t=true:=by
 have h1:=(cJ h.ai q (kg hf).1).2
 unfold dj at h1
 simp only [Bool.and_eq_true] at h1
 exact ⟨(bz.1 h1.1.1).1,lB.1 h1.2⟩
theorem sY {b:az} (h:aQ p) (hf:cg (·.id) o.2.1 p.ag=some b):hasB p 7 o.2.1=true∧bw b.text=true:=by
 refine ⟨wa hf,?_⟩
 have h1:=(cJ h.ag b (kg hf).1).2
 unfold cU at h1
 simp only [Bool.and_eq_true] at h1
 exact h1.1
theorem CV (h:aQ p) (hu:xj id p) (hn:p.next≤999999990) (ho:ku o=true) (hk:o.1=3) (et:0≤now∧now≤1000000000):sM p (mz o now id p):=by
 obtain ⟨f0,f1,f2,f3,f4⟩:=dv ho
 unfold mz
 split
 ·exact cP h hu.up rfl (by omega)
 ·rename_i s hs
  obtain ⟨k1,k2,k3⟩:=pu h hs
  split
  ·exact A9 h hu rfl (by omega) et f2 (.inr ⟨.inl rfl,f4 (by omega) (by omega) (by omega)⟩) k1
  ·refine cP (mg h fun y hy hk=> ?_) hu.up rfl (n7 p.next)
   rw [only h.aj hs hy hk]; omega
theorem yn (h:aQ p) (hu:xj id p) (hn:p.next≤999999990):sM p (gJ o id p):=by
 unfold gJ
 split
 ·exact cP h hu.up rfl (by omega)
 ·rename_i s hs
  obtain ⟨k1,k2,k3⟩:=pu h hs
  split
  ·rename_i y hy
   obtain ⟨m1,m2,-⟩:=fw hy
   have h3:=ni p.next y
   exact cP (iZ h m1 (by omega) (.inl rfl) (by omega)) (hu.up.wake m1 (by omega) fun _=>rfl) rfl (by show p.next≤gf p.next y∧gf p.next y≤p.next+7; omega)
  ·split
   ·exact cP h hu.up rfl (by omega)
   ·refine cP (mg h fun y hy hk=> ?_) hu.up rfl (n7 p.next)
    rw [only h.aj hs hy hk]; omega
theorem yN (h:aQ p) (hu:xj id p) (hn:p.next≤999999990) (ho:ku o=true) (hk:o.1=5∨o.1=6∨o.1=7) (et:0≤now∧now≤1000000000):sM p (dD o now id p):=by
 obtain ⟨f0,f1,f2,f3,f4⟩:=dv ho
 unfold dD
 split
 ·exact cP h hu.up rfl (by omega)
 ·rename_i e he
  split
  ·have h1:=pN (on:=o.2.1) (f:=fun y=>y) (st:=4) (by decide) (.inl rfl) (ky (k:=o.2.1) (b:=true) h) hn
   have h2:(gL o.2.1 true p).next=p.next:=rfl
   exact cP h1.1 (Up.fk (p:=gL o.2.1 true p) hu.up (by decide) fun _=>rfl) rfl (by omega)
  ·split
   ·exact cP (ky h) hu.up rfl (n7 p.next)
   ·split
    ·exact cP h hu.up rfl (by omega)
    ·exact A9 h hu rfl (by omega) et f2 (.inr ⟨.inr (.inl rfl),f4 (by omega) (by omega) (by omega)⟩) (wa he)
theorem Dr (h:aQ p) (hu:xj id p) (hn:p.next≤999999990) (ho:ku o=true) (et:0≤now∧now≤1000000000):sM p (kZ o now id p):=by
 obtain ⟨f0,f1,f2,f3,f4⟩:=dv ho
 unfold kZ
 split
 ·exact cP h hu.up rfl (by omega)
 ·rename_i b hb
  obtain ⟨k1,k2,k3,k4⟩:=jh h hb
  split
  ·rename_i y hy
   obtain ⟨m1,m2,-⟩:=fw hy
   have h3:=ni p.next y
   exact cP (iZ h m1 (by omega) (.inr ⟨_,f3,rfl⟩) (by omega)) (hu.up.wake m1 (by omega) fun _=>rfl) rfl (by show p.next≤gf p.next y∧gf p.next y≤p.next+7; omega)
  ·split
   ·exact A9 h hu rfl (by omega) et f2 (.inl ⟨rfl,f3⟩) k1
   ·refine cP (gV h (fun y hy hk=> ?_) fun t ht=> ?_) hu.up rfl (n7 p.next)
    ·rw [only h.ae hb hy hk,List.length_append]; simp only [List.length_cons,List.length_nil]; omega
    ·rcases List.mem_append.1 ht with ht | ht
     ·exact k4 t ht
     ·simp only [List.mem_cons,List.not_mem_nil,or_false] at ht; rw [ht]; exact f3
theorem DC (h:aQ p) (hu:xj id p) (hn:p.next≤999999990) (ho:ku o=true) (hk:o.1=9) (et:0≤now∧now≤1000000000):sM p (j8 o now id p):=by
 obtain ⟨f0,f1,f2,f3,f4⟩:=dv ho
 unfold j8
 split
 ·exact cP h hu.up rfl (by omega)
 ·rename_i b hb
  obtain ⟨k1,k2,k3,k4⟩:=jh h hb
  split
  ·exact A9 (iN h jW) hu.got rfl (by omega) et f2 (.inr ⟨.inr (.inr (.inl rfl)),f4 (by omega) (by omega) (by omega)⟩) k2
  ·rename_i t r hr
   rw [hr] at k3 k4
   simp only [List.length_cons] at k3
   have hg:aQ (eE t id p):=iN h (k4 t (by simp))
   have hg':xj id (eE t id p):=hu.got
   have hgb:cg (·.id) o.2.1 (eE t id p).ae=some b:=hb
   split
   ·refine cP (gV hg (fun y hy hk=> ?_) fun t ht=>k4 t (by simp [ht])) hg'.up rfl (n7 p.next)
    rw [only hg.ae hgb hy hk]; omega
   ·rename_i y hy
    obtain ⟨m1,m2,-⟩:=fw hy
    have h3:=ni p.next y
    have hh:bw y.held=true:=by
     have h5:=iF (hg.proc m1).2.1
     unfold jT at h5
     simp only [Bool.and_eq_true] at h5
     exact h5.1.1.2
    have hb2:aQ (cV o.2.1 (r ++ [y.held]) (eE t id p)):=gV hg (fun z hz hk=>by rw [only hg.ae hgb hz hk,List.length_append]; simp only [List.length_cons,List.length_nil]; omega) fun s hs=>by
     rcases List.mem_append.1 hs with hs | hs
     ·exact k4 s (by simp [hs])
     ·simp only [List.mem_cons,List.not_mem_nil,or_false] at hs; rw [hs]; exact hh
    exact cP (iZ hb2 m1 (by omega) (.inl rfl) (by show p.next+1≤_; omega)) (Up.wake (p:=cV o.2.1 (r ++ [y.held]) (eE t id p)) hg'.up m1 (by omega) fun _=>rfl) rfl (by show p.next≤gf p.next y∧gf p.next y≤p.next+7; omega)
theorem ze (h:aQ p) (hu:xj id p) (hn:p.next≤999999990) (ho:ku o=true) (hk:o.1=10∨o.1=11∨o.1=12) (et:0≤now∧now≤1000000000):sM p (dF o now id p):=by
 obtain ⟨f0,f1,f2,f3,f4⟩:=dv ho
 unfold dF
 split
 ·exact cP h hu.up rfl (by omega)
 ·rename_i b hb
  obtain ⟨k1,k2⟩:=sY h hb
  split
  ·have h1:=pN (on:=o.2.1) (f:=lS o.2.2.2) (st:=7) (by decide) (.inr ⟨_,f3,rfl⟩) (kw (k:=o.2.1) (b:=true) h f3 (.inl rfl)) hn
   have h2:(hU o.2.1 true o.2.2.2 p).next=p.next:=rfl
   exact cP h1.1 (Up.fk (p:=hU o.2.1 true o.2.2.2 p) hu.up (by decide) fun _=>rfl) rfl (by omega)
  ·split
   ·exact cP (kw h jW (.inr oN)) hu.up rfl (n7 p.next)
   ·split
    ·exact cP (iN h k2) hu.got.up rfl (n7 p.next)
    ·exact A9 (iN h k2) hu.got rfl (by omega) et f2 (.inr ⟨.inr (.inr (.inr rfl)),f4 (by omega) (by omega) (by omega)⟩) k1
theorem Bt (h:aQ p) (hu:xj id p) (ho:ku o=true):sM p (ij o id p):=by
 obtain ⟨f0,f1,f2,f3,f4⟩:=dv ho
 unfold ij
 split
 ·exact cP h hu.up rfl (by omega)
 ·rename_i q hq
  obtain ⟨k1,k2,k3⟩:=nz h hq
  split
  ·exact cP h hu.up rfl (by omega)
  ·split
   ·refine cP (jc h (fun y hy hk=> ?_) fun t ht=> ?_) hu.up rfl (n7 p.next)
    ·rw [only h.ai hq hy hk]; exact k1
    ·simp only [List.mem_cons,List.not_mem_nil,or_false] at ht; rw [ht]; exact f3
   ·split
    ·exact cP h hu.up rfl (by omega)
    ·refine cP (jc h (fun y hy hk=> ?_) fun t ht=> ?_) hu.up rfl (n7 p.next)
     ·rw [only h.ai hq hy hk,List.length_append]; simp only [List.length_cons,List.length_nil]; omega
     ·rcases List.mem_append.1 ht with ht | ht
      ·exact k3 t ht
      ·simp only [List.mem_cons,List.not_mem_nil,or_false] at ht; rw [ht]; exact f3
theorem Ai (h:aQ p) (hu:xj id p):sM p (gC o id p):=by
 unfold gC
 split
 ·exact cP h hu.up rfl (by omega)
 ·rename_i q hq
  obtain ⟨k1,k2,k3⟩:=nz h hq
  split
  ·exact cP h hu.up rfl (by omega)
  ·split
   ·exact cP (iN h jW) hu.got.up rfl (n7 p.next)
   ·rename_i t r hr
    rw [hr] at k2 k3
    simp only [List.length_cons] at k2
    have hg:aQ (eE t id p):=iN h (k3 t (by simp))
    have hgb:cg (·.id) o.2.1 (eE t id p).ai=some q:=hq
    split
    ·refine cP (jc hg (fun y hy hk=> ?_) fun t ht=>k3 t (by simp [ht])) hu.got.up rfl (n7 p.next)
     rw [only hg.ai hgb hy hk]; omega
    ·exact cP hg hu.got.up rfl (n7 p.next)
theorem Ba (h:aQ p) (hu:xj id p) (hn:p.next≤999999990):sM p (jZ o id p):=by
 have hnx:=bz.1 h.next
 unfold jZ
 split
 ·exact cP h hu.up rfl (by omega)
 ·rename_i y hy
  split
  ·rename_i h0
   obtain ⟨m1,m2⟩:=kg hy
   have hne: ¬ o.2.1=id:=fun e=>by have:=hu.up y m1 (by omega); omega
   refine cP (h.js (nx:=p.next+1) (f:=fun y=> { y with state:=1,since:=p.next }) (fun _=>rfl) ⟨by omega,by omega⟩ fun z hz hi=> ?_) (hu.up.other hne fun _=>rfl) rfl (by show p.next≤p.next+1∧p.next+1≤p.next+7; omega)
   have e:=only h.procs hy hz hi
   subst e
   obtain ⟨-,q1,q2,q3⟩:=h.proc hz
   have q4:=iF q1
   rw [fB,Bool.and_eq_true] at q1
   have q5:=q1.2
   unfold bO at q5
   rw [if_pos h0] at q5
   simp only [Bool.and_eq_true,decide_eq_true_eq] at q5
   obtain ⟨⟨⟨⟨⟨a1,a2⟩,a3⟩,a4⟩,a5⟩,a6⟩:=q5
   have q6:jn z.prog=true:=by
    unfold jT at q4
    simp only [Bool.and_eq_true] at q4
    exact q4.1.1.1.2
   refine ⟨?_,?_,rfl,.inr (.inr rfl)⟩
   ·rw [fB,Bool.and_eq_true]
    refine ⟨q4,mj q6 rfl ⟨by show 0≤z.pc; omega,?_⟩ a2 a3 a4 a6⟩
    have:=lF q6
    show z.pc < z.prog.length
    omega
   ·unfold fF
    rw [Bool.or_eq_true]
    exact .inr (ez (by show 1≤p.next; omega) (by show p.next≤p.next+1 - 1; omega))
  ·exact cP h hu.up rfl (by omega)
theorem nQ (h:aQ p) {k:Int} :aQ (oI k p):=by
 have hnx:=bz.1 h.next
 refine h.js (nx:=p.next) (f:=j9) (fun _=>rfl) ⟨Int.le_refl _,hnx.2⟩ fun z hz hi=> ?_
 exact ⟨uo (iF (h.proc hz).2.1),rfl,rfl,.inr (.inl rfl)⟩
theorem CZ (h:aQ p) (hu:xj id p):sM p (lh o id p):=by
 unfold lh
 split
 ·exact cP h hu.up rfl (by omega)
 ·split
  ·exact cP h hu.up rfl (by omega)
  ·split
   ·exact ⟨nQ h,n7 p.next⟩
   ·rename_i hne
    exact cP (nQ h) (hu.up.other hne fun _=>rfl) rfl (n7 p.next)
end
theorem fK {P:aE→Prop} {c:Prop} [Decidable c] {a b:aE} (h1:c→P a) (h2: ¬ c→P b):P (if c then a else b):=by
 split
 ·exact h1 ‹_›
 ·exact h2 ‹_›
theorem Cb {p:aE} {x:aD} {now:Int} (h:aQ p) (hx:x∈p.procs) (hs:x.state=1) (hn:p.next≤999999990) (et:0≤now∧now≤1000000000):ku (opAt x)=true∧sM p (lX now x (opAt x) p):=by
 obtain ⟨-,k1,k2,k3⟩:=h.proc hx
 have hnx:=bz.1 h.next
 have hop:=iK k1 (by rw [hs]; decide)
 have hb:=iF k1
 have hpl:jn x.prog=true:=by
  unfold jT at hb
  simp only [Bool.and_eq_true] at hb
  exact hb.1.1.1.2
 have hlt:x.pc.toNat < x.prog.length:=by omega
 have hoa:opAt x=x.prog[x.pc.toNat] :=by unfold opAt; rw [List.getElem?_eq_getElem hlt]; rfl
 have ho:ku (opAt x)=true:=by rw [hoa]; exact zu hpl (List.getElem?_eq_getElem hlt)
 refine ⟨ho,?_⟩
 have hst:dU x=true∧jM x=true∧x.wake=0∧x.on=0∧bI x.held=true:=by
  rw [fB,Bool.and_eq_true] at k1
  have h3:=k1.2
  unfold bO at h3
  rw [if_neg (by omega),if_pos hs] at h3
  simp only [Bool.and_eq_true,decide_eq_true_eq] at h3
  exact ⟨h3.1.1.1.1,h3.1.1.1.2,h3.1.1.2,h3.1.2,h3.2⟩
 have hone: ∀ y∈p.procs,y.id=x.id→y=x:=fun y hy e=>by
  have h5:=h.kU
  rw [List.pairwise_iff_getElem] at h5
  obtain ⟨i,hi1,rfl⟩:=List.mem_iff_getElem.1 hy
  obtain ⟨j,D4,rfl⟩:=List.mem_iff_getElem.1 hx
  rcases Nat.lt_trichotomy i j with hlt | heq | hgt
  ·have:=h5 i j hi1 D4 hlt; omega
  ·subst heq; rfl
  ·have:=h5 j i D4 hi1 hgt; omega
 have hup:Up x.id p:=fun y hy e=>by rw [hone y hy e]; exact hs
 obtain ⟨f0,f1,f2,f3,f4⟩:=dv ho
 have hl: ¬ (opAt x).1=1→xj x.id p:=fun hk y hy e=>by
  rw [hone y hy e]
  refine ⟨hs,?_⟩
  have h4:=hst.2.1
  unfold jM at h4
  rw [if_neg hk] at h4
  exact of_decide_eq_true h4
 unfold lX
 refine fK (P:=sM p) (fun hk=> ?_) (fun hk1=> ?_)
 ·have h4:=hst.2.1
  unfold jM at h4
  rw [if_pos hk] at h4
  simp only [Bool.and_eq_true,decide_eq_true_eq] at h4
  have hN:=f1 (by omega)
  unfold Gt
  refine fK (P:=sM p) (fun _=> ?_) (fun hne=> ?_)
  ·exact cP h hup rfl (by omega)
  ·refine ⟨h.js (nx:=p.next) (f:=fun y=> { y with left:=(if x.left=0 then (opAt x).2.1 else x.left) - 1 }) (fun _=>rfl) ⟨Int.le_refl _,hnx.2⟩ fun z hz hi=> ?_,n7 p.next⟩
   rw [hone z hz hi]
   refine ⟨?_,k2,k3,.inl rfl⟩
   rw [fB,Bool.and_eq_true]
   refine ⟨hb,?_⟩
   unfold bO
   show (if x.state=0 then _ else if x.state=1 then dU x && jM { x with left:=(if x.left=0 then (opAt x).2.1 else x.left) - 1 } && decide (x.wake=0) && decide (x.on=0) && bI x.held else _)=true
   have h5:jM { x with left:=(if x.left=0 then (opAt x).2.1 else x.left) - 1 } =true:=by
    unfold jM
    show (if (opAt x).1=1 then decide (0≤(if x.left=0 then (opAt x).2.1 else x.left) - 1) && decide ((if x.left=0 then (opAt x).2.1 else x.left) - 1 < (opAt x).2.1) else _)=true
    rw [if_pos hk]
    simp only [Bool.and_eq_true,decide_eq_true_eq]
    split <;> omega
   rw [if_neg (by omega),if_pos hs,h5,hst.1,hst.2.2.1,hst.2.2.2.1,hst.2.2.2.2]; rfl
 ·have hu:=hl hk1
  refine fK (P:=sM p) (fun hk=> ?_) (fun _=> ?_)
  ·have hN:=f1 (by omega)
   exact ⟨td h hu (by omega) (.inl ⟨rfl,rfl,oN,ez (by omega) (by omega)⟩),by show p.next≤p.next+1; omega,by show p.next+1≤_; omega⟩
  ·refine fK (P:=sM p) (fun hk=> ?_) (fun _=> ?_)
   ·exact CV h hu hn ho hk et
   ·refine fK (P:=sM p) (fun hk=> ?_) (fun _=> ?_)
    ·clear hk; exact yn h hu hn
    ·refine fK (P:=sM p) (fun hk=> ?_) (fun _=> ?_)
     ·exact yN h hu hn ho hk et
     ·refine fK (P:=sM p) (fun hk=> ?_) (fun _=> ?_)
      ·exact Dr h hu hn ho et
      ·refine fK (P:=sM p) (fun hk=> ?_) (fun _=> ?_)
       ·exact DC h hu hn ho hk et
       ·refine fK (P:=sM p) (fun hk=> ?_) (fun _=> ?_)
        ·exact ze h hu hn ho hk et
        ·refine fK (P:=sM p) (fun hk=> ?_) (fun _=> ?_)
         ·exact Bt h hu ho
         ·refine fK (P:=sM p) (fun hk=> ?_) (fun _=> ?_)
          ·exact Ai h hu
          ·refine fK (P:=sM p) (fun hk=> ?_) (fun _=> ?_)
           ·exact Ba h hu hn
           ·refine fK (P:=sM p) (fun hk=> ?_) (fun _=> ?_)
            ·exact CZ h hu
            ·refine ⟨h.js (nx:=p.next) (f:=fun y=> { y with pc:=0 }) (fun _=>rfl) ⟨Int.le_refl _,hnx.2⟩ fun z hz hi=> ?_,n7 p.next⟩
             rw [hone z hz hi]
             have h5:=hu x hx rfl
             have h6:=lF hpl
             refine ⟨?_,k2,k3,.inl rfl⟩
             rw [fB,Bool.and_eq_true]
             exact ⟨hb,mj (x:= { x with pc:=0 }) hpl hs ⟨Int.le_refl _,by show (0:Int) < x.prog.length; omega⟩ h5.2 hst.2.2.1 hst.2.2.2.1 hst.2.2.2.2⟩
theorem Do {p:aE} {now:Int} (h:aQ p) (hn:p.next≤999999980) (et:0≤now∧now≤1000000000):aQ (nf now p)∧p.next≤(nf now p).next∧(nf now p).next≤p.next+13:=by
 obtain ⟨h1,h2,h3⟩:=rI (now:=now) h (by omega)
 unfold nf
 split
 ·exact ⟨h1,h2,by omega⟩
 ·rename_i x hx
  obtain ⟨m1,m2,-⟩:=fw hx
  obtain ⟨-,h4,h5,h6⟩:=Cb (now:=now) h1 m1 m2 (by omega) et
  exact ⟨h4,by omega,by omega⟩
end Go.Proofs.YtkbcplnlehdjfaaGreat
namespace Go.Proofs.YtkbcplnlehdjfaaGreat
open Go.RowKit Go.Maps
attribute [local go_sem ↓] Go.wp_at_zero Go.wp_at_succ
def pJ (nx code:Int) (x:ao):ao:=⟨iW nx code x.toaD,x.aY,x.bH⟩
abbrev zp (W w:World) (base gs:Nat) (z q:af):Prop:=av W w.heap.size z∧W.heap[w.heap.size+1]? =some (.cells ar 32 (0,0))∧ap W base q∧aI w W [gs] ∧Below base w W
theorem qV {n:Nat} {x y:ao} {l:List ao} (hx:l[n]? =some x) (hy:y.aY=x.aY):(l.set n y).filterMap aR.bt=l.filterMap aR.bt:=by
 have hn:=(List.getElem?_eq_some_iff.1 hx).1
 have e:l[n] =x:=(List.getElem?_eq_some_iff.1 hx).2
 rw [List.set_eq_take_append_cons_drop,if_pos hn]
 conv=>rhs; rw [← List.take_append_drop n l,List.drop_eq_getElem_cons hn]
 simp only [List.filterMap_append,List.filterMap_cons,e]
 have hk:aR.bt y=aR.bt x:=by show (y.aY).map _=(x.aY).map _; rw [hy]
 rw [hk]
theorem Br {n:Nat} {q:af} {x:ao} {code:Int} {g:Nat} (hx:q.procs[n]? =some x) (h:g∈({ q with procs:=q.procs.set n (fG code x) } :af).blocks):g∈q.blocks:=by
 unfold af.blocks at h ⊢
 simp only [qV hx (show (fG code x).aY=x.aY from rfl)] at h
 exact h
theorem yF {n:Nat} {q:af} {nx s:Int} {y:ao} {g:Nat} (hx:q.procs[n]? =some y) (h:g∈({ q with next:=nx,procs:=q.procs.set n { y with since:=s } } :af).blocks):g∈q.blocks:=by
 unfold af.blocks at h ⊢
 simp only [qV hx (show ({ y with since:=s } :ao).aY=y.aY from rfl)] at h
 exact h
theorem vL (q:af) (n base:Nat) (x:ao) (code:Int) (w:World) (h:ap w base q) (hb:base≤w.heap.size) (hx:q.procs[n]? =some x) (hpc:0≤x.pc∧x.pc < x.prog.length) (hl:x.prog.length≤1048576) (hn:0≤q.next∧q.next≤1000000000):
  Calls Tryz.prog 188 #[.agg q.cells,.int .i64 n,.int .i64 code] w fun e w'=> ∃ q2:af,e= .returned (.agg q2.cells)∧q2= { q with next:=gf q.next x.toaD,procs:=q.procs.set n (pJ q.next code x) } ∧ap w' base q2∧Below base w w'∧aI w w' (blk q.aN):=by
 obtain ⟨gs,ha,-⟩:=cq h.at.1 hx
 have hgs:=cf h.procs (g:=gs) (by rw [ha]; simp [blk])
 have hnl:n < q.procs.length:=(List.getElem?_eq_some_iff.1 hx).1
 obtain ⟨qi,qn,ps,pA,pC,ss,sA,sC,es,eA,eC,bs,bA,bC,fs,fA,fC,ts,tA,tC⟩:=q
 simp only at ha
 subst ha
 obtain ⟨C,hC⟩: ∃ C:Array Value,C= #[.int .i64 qi,.int .i64 qn,.slice (some ⟨gs,0,none⟩) ps.length pC,.slice sA ss.length sC,.slice eA es.length eC,.slice bA bs.length bC,.slice fA fs.length fC,.slice tA ts.length tC] :=⟨_,rfl⟩
 obtain ⟨D,hD⟩: ∃ D:af,D=(⟨qi,qn,ps,some ⟨gs,0,none⟩,pC,ss,sA,sC,es,eA,eC,bs,bA,bC,fs,fA,fC,ts,tA,tC⟩:af):=⟨_,rfl⟩
 obtain ⟨A,hA⟩: ∃ A:World,A=(w.alloc (.cells C 32)).alloc (.cells ar 32):=⟨_,rfl⟩
 have b1:Below w.heap.size w A:=by rw [hA]; exact dR _ _ _
 have h2:=dc w (.cells C 32) (.cells ar 32)
 have HC:Hid (ps[n]? =some x∧base≤gs∧gs < w.heap.size∧base≤w.heap.size∧n < ps.length):=⟨hx,hgs.1,hgs.2,hb,hnl⟩
 have PBK:Hid (∀ g∈D.blocks,g < w.heap.size):=fun g hg=>(h.lt g (hD ▸ hg)).2
 have HA:Hid (av A w.heap.size D∧A.heap[w.heap.size+1]? =some (.cells ar 32 (0,0))∧ap A base D∧Below w.heap.size w A):=by subst hA hD hC; exact ⟨h2.1,h2.2,h.below b1,b1⟩
 subst hA hD hC
 have HN:Hid (0≤qn∧qn≤1000000000):=hn
 have hcall:=uN _ n base x code _ HA.out.2.2.1 (by have:=HC.out.2.2.2.1; have:=b1.size; omega) hx hpc hl
 have j0:(0:Int)≤(n:Int):=by omega
 have j1:(n:Int) < ((ps.set n (fG code x)).length:Int):=by have:n < ps.length:=hnl; rw [List.length_set]; omega
 rw [List.length_set] at j1
 clear h hb hx hgs b1 h2 hnl hl hpc hn
 unfold af.cells at hcall ⊢
 simp only at hcall ⊢
 go_enter Tryz.func188,Tryz.ntmps188
 obtain ⟨m0,m1,m2,m3,m4,m5,m6,m7⟩:=HA.out.1.cells
 go_wp2_with fail
 clear m0 m1 m2 m3 m4 m5 m6 m7
 refine hcall.mono ?_
 clear hcall
 rintro e w1 ⟨rfl,ho1,hb1,hk1⟩
 have H1:Hid (zp w1 w base gs (⟨qi,qn,ps,some ⟨gs,0,none⟩,pC,ss,sA,sC,es,eA,eC,bs,bA,bC,fs,fA,fC,ts,tA,tC⟩:af) (⟨qi,qn,(ps.set n (fG code x)),some ⟨gs,0,none⟩,pC,ss,sA,sC,es,eA,eC,bs,bA,bC,fs,fA,fC,ts,tA,tC⟩:af)):=by
  have hc:=HC.out
  have hk:aI w w1 [gs] :=(aI.dI HA.out.2.2.2).trans hk1
  have l1:=(Array.getElem?_eq_some_iff.1 HA.out.2.1).1
  exact ⟨(hk1.same _ (by omega) (by simp [blk]; omega)).trans HA.out.1,(hk1.same _ (by omega) (by simp [blk]; omega)).trans HA.out.2.1,ho1,hk,(HA.out.2.2.2.mono hc.2.2.2.1).trans hb1⟩
 have PB1:Hid (∀ g∈(⟨qi,qn,(ps.set n (fG code x)),some ⟨gs,0,none⟩,pC,ss,sA,sC,es,eA,eC,bs,bA,bC,fs,fA,fC,ts,tA,tC⟩:af).blocks,g < w.heap.size):=fun g hg=>PBK.out g (Br HC.out.1 hg)
 clear ho1 hb1 hk1 HA
 have H2:Hid (zp (w1.setRow w.heap.size #[.int .i64 qi,.int .i64 qn,.slice (some ⟨gs,0,none⟩) ps.length pC,.slice sA ss.length sC,.slice eA es.length eC,.slice bA bs.length bC,.slice fA fs.length fC,.slice tA ts.length tC]) w base gs (⟨qi,qn,ps,some ⟨gs,0,none⟩,pC,ss,sA,sC,es,eA,eC,bs,bA,bC,fs,fA,fC,ts,tA,tC⟩:af) (⟨qi,qn,(ps.set n (fG code x)),some ⟨gs,0,none⟩,pC,ss,sA,sC,es,eA,eC,bs,bA,bC,fs,fA,fC,ts,tA,tC⟩:af)):=by
  have hc:=HC.out
  exact ⟨setRow_heap _ _ _ _ _ _ H1.out.1,(setRow_other _ _ _ _ (by omega)).trans H1.out.2.1,H1.out.2.2.1.same fun g hg=>setRow_other _ _ _ _ (by have:=PB1.out g hg; omega),H1.out.2.2.2.1.more (below_setRow (Below.refl _ _) (by omega) _),below_setRow H1.out.2.2.2.2 (by omega) _⟩
 have hx1:(ps.set n (fG code x))[n]? =some (fG code x):=by rw [List.getElem?_set_self HC.out.2.2.2.2]
 have xW:Hid ((ps.set n (fG code x))[n]? =some (fG code x)):=hx1
 obtain ⟨m0,m1,m2,m3,m4,m5,m6,m7⟩:=H2.out.1.cells
 obtain ⟨d3⟩:World.cell? (w1.setRow w.heap.size #[.int .i64 qi,.int .i64 qn,.slice (some ⟨gs,0,none⟩) ps.length pC,.slice sA ss.length sC,.slice eA es.length eC,.slice bA bs.length bC,.slice fA fs.length fC,.slice tA ts.length tC]) ⟨gs,n * 12+3,none⟩=some (.int .i64 (fG code x).state)∧True:=by
  obtain ⟨g,e,h5⟩:=cq H2.out.2.2.1.at.1 hx1
  cases e
  exact ⟨h5.2.2.2.1,trivial⟩
 by_cases hlen:x.pc+1=x.prog.length
 ·have e1:((fG code x).state == 1)=false:=by show ((jY code x.toaD).state == 1)=false; unfold jY; rw [if_pos hlen]; rfl
  have HE:Hid (gf qn x.toaD=qn∧pJ qn code x=(fG code x)):=by show _∧_; unfold gf pJ fG iW jY; rw [if_pos hlen,if_pos hlen,if_pos hlen]; exact ⟨rfl,rfl⟩
  clear hlen hx1
  go_wp2_with (first | (refine dZ 3 10 (w.heap.size) #[.int .i64 qi,.int .i64 qn,.slice (some ⟨gs,0,none⟩) ps.length pC,.slice sA ss.length sC,.slice eA es.length eC,.slice bA bs.length bC,.slice fA fs.length fC,.slice tA ts.length tC] H1.out.1 ?_) | (refine dZ 6 21 (w.heap.size+1) #[.int .i64 qi,.int .i64 qn,.slice (some ⟨gs,0,none⟩) ps.length pC,.slice sA ss.length sC,.slice eA es.length eC,.slice bA bs.length bC,.slice fA fs.length fC,.slice tA ts.length tC] H2.out.2.1 ?_))
  refine gP Tryz.results188 (w.heap.size+1) #[.int .i64 qi,.int .i64 qn,.slice (some ⟨gs,0,none⟩) ps.length pC,.slice sA ss.length sC,.slice eA es.length eC,.slice bA bs.length bC,.slice fA fs.length fC,.slice tA ts.length tC] H2.out.2.1 ?_
  rw [HE.out.1,HE.out.2]
  refine ⟨_,?_,rfl,H2.out.2.2.1.same fun g hg=>setRow_other _ _ _ _ (by have:=PB1.out g hg; omega),below_setRow H2.out.2.2.2.2 (by have:=HC.out.2.2.2.1; omega) _,H2.out.2.2.2.1.more (below_setRow (Below.refl _ _) (by omega) _)⟩
  simp only [List.length_set]
 have e1:((fG code x).state == 1)=true:=by show ((jY code x.toaD).state == 1)=true; unfold jY; rw [if_neg hlen]; rfl
 have HE:Hid (gf qn x.toaD=qn+1∧pJ qn code x= { (fG code x) with since:=qn }):=by show _∧_; unfold gf pJ fG iW jY; rw [if_neg hlen,if_neg hlen,if_neg hlen]; exact ⟨rfl,rfl⟩
 clear hlen
 have hcall:=qL _ n base (fG code x) _ H2.out.2.2.1 (by have:=HC.out.2.2.2.1; have:=H2.out.2.2.2.1.size; omega) hx1 HN.out
 unfold af.cells at hcall
 simp only [List.length_set] at hcall
 clear hx1
 go_wp2_with (refine dZ 3 10 (w.heap.size) #[.int .i64 qi,.int .i64 qn,.slice (some ⟨gs,0,none⟩) ps.length pC,.slice sA ss.length sC,.slice eA es.length eC,.slice bA bs.length bC,.slice fA fs.length fC,.slice tA ts.length tC] H1.out.1 ?_)
 clear m0 m1 m2 m3 m4 m5 m6 m7 d3 e1
 refine hcall.mono ?_
 clear hcall
 rintro e w3 ⟨q3,he,rfl,BD,hb3,hk3⟩
 simp only [List.length_set] at he
 subst he
 have H3:Hid (zp w3 w base gs (⟨qi,qn,ps,some ⟨gs,0,none⟩,pC,ss,sA,sC,es,eA,eC,bs,bA,bC,fs,fA,fC,ts,tA,tC⟩:af) (⟨qi,(qn+1),((ps.set n (fG code x)).set n ({ (fG code x) with since:=qn } :ao)),some ⟨gs,0,none⟩,pC,ss,sA,sC,es,eA,eC,bs,bA,bC,fs,fA,fC,ts,tA,tC⟩:af)):=by
  have hc:=HC.out
  have l1:=(Array.getElem?_eq_some_iff.1 H2.out.2.1).1
  exact ⟨(hk3.same _ (by omega) (by simp [blk]; omega)).trans H2.out.1,(hk3.same _ (by omega) (by simp [blk]; omega)).trans H2.out.2.1,BD,H2.out.2.2.2.1.trans hk3,H2.out.2.2.2.2.trans hb3⟩
 have PB3:Hid (∀ g∈(⟨qi,(qn+1),((ps.set n (fG code x)).set n ({ (fG code x) with since:=qn } :ao)),some ⟨gs,0,none⟩,pC,ss,sA,sC,es,eA,eC,bs,bA,bC,fs,fA,fC,ts,tA,tC⟩:af).blocks,g < w.heap.size):=fun g hg=>PB1.out g (yF (q:=(⟨qi,qn,(ps.set n (fG code x)),some ⟨gs,0,none⟩,pC,ss,sA,sC,es,eA,eC,bs,bA,bC,fs,fA,fC,ts,tA,tC⟩:af)) xW.out hg)
 clear BD hb3 hk3 H1 H2
 have H4:Hid (zp (w3.setRow w.heap.size #[.int .i64 qi,.int .i64 (qn+1),.slice (some ⟨gs,0,none⟩) ps.length pC,.slice sA ss.length sC,.slice eA es.length eC,.slice bA bs.length bC,.slice fA fs.length fC,.slice tA ts.length tC]) w base gs (⟨qi,(qn+1),ps,some ⟨gs,0,none⟩,pC,ss,sA,sC,es,eA,eC,bs,bA,bC,fs,fA,fC,ts,tA,tC⟩:af) (⟨qi,(qn+1),((ps.set n (fG code x)).set n ({ (fG code x) with since:=qn } :ao)),some ⟨gs,0,none⟩,pC,ss,sA,sC,es,eA,eC,bs,bA,bC,fs,fA,fC,ts,tA,tC⟩:af)):=by
  have hc:=HC.out
  exact ⟨setRow_heap _ _ _ _ _ _ H3.out.1,(setRow_other _ _ _ _ (by omega)).trans H3.out.2.1,H3.out.2.2.1.same fun g hg=>setRow_other _ _ _ _ (by have:=PB3.out g hg; omega),H3.out.2.2.2.1.more (below_setRow (Below.refl _ _) (by omega) _),below_setRow H3.out.2.2.2.2 (by omega) _⟩
 obtain ⟨m0,m1,m2,m3,m4,m5,m6,m7⟩:=H4.out.1.cells
 go_wp2_with (first | (refine dZ 3 20 (w.heap.size) #[.int .i64 qi,.int .i64 (qn+1),.slice (some ⟨gs,0,none⟩) ps.length pC,.slice sA ss.length sC,.slice eA es.length eC,.slice bA bs.length bC,.slice fA fs.length fC,.slice tA ts.length tC] H3.out.1 ?_) | (refine dZ 6 21 (w.heap.size+1) #[.int .i64 qi,.int .i64 (qn+1),.slice (some ⟨gs,0,none⟩) ps.length pC,.slice sA ss.length sC,.slice eA es.length eC,.slice bA bs.length bC,.slice fA fs.length fC,.slice tA ts.length tC] H4.out.2.1 ?_))
 refine gP Tryz.results188 (w.heap.size+1) #[.int .i64 qi,.int .i64 (qn+1),.slice (some ⟨gs,0,none⟩) ps.length pC,.slice sA ss.length sC,.slice eA es.length eC,.slice bA bs.length bC,.slice fA fs.length fC,.slice tA ts.length tC] H4.out.2.1 ?_
 rw [HE.out.1,HE.out.2]
 refine ⟨_,?_,rfl,?_,below_setRow H4.out.2.2.2.2 (by have:=HC.out.2.2.2.1; omega) _,H4.out.2.2.2.1.more (below_setRow (Below.refl _ _) (by omega) _)⟩
 ·simp only [List.length_set]
 ·have h5:=H4.out.2.2.1.same (w':=(w3.setRow w.heap.size #[.int .i64 qi,.int .i64 (qn+1),.slice (some ⟨gs,0,none⟩) ps.length pC,.slice sA ss.length sC,.slice eA es.length eC,.slice bA bs.length bC,.slice fA fs.length fC,.slice tA ts.length tC]).setRow (w.heap.size+1) #[.int .i64 qi,.int .i64 (qn+1),.slice (some ⟨gs,0,none⟩) ps.length pC,.slice sA ss.length sC,.slice eA es.length eC,.slice bA bs.length bC,.slice fA fs.length fC,.slice tA ts.length tC]) fun g hg=>setRow_other _ _ _ _ (by have:=PB3.out g hg; omega)
  rw [List.set_set] at h5
  exact h5
end Go.Proofs.YtkbcplnlehdjfaaGreat
