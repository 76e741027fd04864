/- What the proof leans on, part 27: WithBoardS, WkPast, TkR3, LawZ. -/
import Derived.Test.YtkbcplnlehdjfaaGreatOwnB2
import Derived.Test.YtkbcplnlehdjfaaGreatOwnB19
import Derived.Test.YtkbcplnlehdjfaaGreatOwnB23
import Derived.Test.YtkbcplnlehdjfaaGreatOwnB24
import Derived.Test.YtkbcplnlehdjfaaGreatOwnB25
set_option maxRecDepth 100000
set_option maxHeartbeats 8000000

namespace Go.Proofs.YtkbcplnlehdjfaaGreat
open Go.RowKit Go.Maps
attribute [local go_sem ↓] Go.wp_at_zero Go.wp_at_succ
theorem ra (p:af) (id:Int) (w:World) (b0:Nat) (hwf:(Lit.int .i64 id).wf=true) (qY:p.pure.Small) (h:ap w b0 p):
  Calls Tryz.prog 40 #[.agg p.cells,.int .i64 id] w fun e w'=>gI w (cB p.pure { p.pure with ag:=cA (·.id) (⟨id,false,⟨#[]⟩⟩:az) p.pure.ag }) e w':=by
 have HB:Hid (av ((w.alloc (.cells p.row 32)).alloc (.cells ar 32)) w.heap.size p∧ap ((w.alloc (.cells p.row 32)).alloc (.cells ar 32)) b0 p∧Below w.heap.size w ((w.alloc (.cells p.row 32)).alloc (.cells ar 32))∧((w.alloc (.cells p.row 32)).alloc (.cells ar 32)).heap[w.heap.size+1]? =some (.cells ar 32 (0,0))):=by
  have b1:Below w.heap.size w ((w.alloc (.cells p.row 32)).alloc (.cells ar 32)):=((Below.refl _ _).alloc (Nat.le_refl _) _).alloc (by simp) _
  exact ⟨(heap_alloc_old _ _ (by simp)).trans (heap_alloc_new _ _),h.below b1,b1,heap_alloc2_new _ _ _⟩
 have fl:Hid (p.Fit∧(∀ x∈p.procs,x.dX)∧p.pure.Small∧(Lit.int .i64 id).wf=true):=⟨dV qY,fun x hx=>(cY qY hx).1,qY,hwf⟩
 have hpl:=fl.out.1.short.ag
 have hcap:p.ag.length≤p.aP:=nV h.ag
 have pd: ∀ g∈p.blocks,g < w.heap.size:=fun g hg=>(h.lt g hg).2
 clear h qY hwf
 obtain ⟨m0,m1,m2,m3,m4,m5,m6,m7⟩:=HB.out.1.cells
 unfold af.cells
 go_enter Tryz.func40,Tryz.ntmps40
 go_wp2_with fail
 generalize (w.alloc (.cells p.row 32)).alloc (.cells ar 32)=W at *
 clear m0 m1 m2 m3 m4 m5 m6 m7
 refine (fR p W fl.out.1 fl.out.2.1 HB.out.2.1.at).mono ?_
 rintro e W1 ⟨q,rfl,hown,gn,hb1⟩
 have hb2:Below W1.heap.size W1 (W1.alloc (.cells q.row 32)):=(Below.refl _ _).alloc (Nat.le_refl _) _
 have hlt:w.heap.size+1 < W.heap.size:=(Array.getElem?_eq_some_iff.1 HB.out.2.2.2).1
 have hb3:Below W.heap.size W (W1.alloc (.cells q.row 32)):=hb1.trans (hb2.mono hb1.size)
 have hq1: ∀ g∈q.blocks,g < W1.heap.size:=fun g hg=>(hown.lt g hg).2
 have HQ:Hid (av (W1.alloc (.cells q.row 32)) W1.heap.size q∧ap (W1.alloc (.cells q.row 32)) W.heap.size q∧q.pure=p.pure∧(∀ g∈q.blocks,g < W1.heap.size)∧W.heap.size≤W1.heap.size∧w.heap.size+1 < W.heap.size∧W1.heap.size < (W1.alloc (.cells q.row 32)).heap.size):=⟨heap_alloc_new _ _,hown.below hb2,gn,hq1,hb1.size,hlt,by simp⟩
 replace HB:Hid (av (W1.alloc (.cells q.row 32)) w.heap.size p∧ap (W1.alloc (.cells q.row 32)) b0 p∧Below w.heap.size w (W1.alloc (.cells q.row 32))∧(W1.alloc (.cells q.row 32)).heap[w.heap.size+1]? =some (.cells ar 32 (0,0))):=⟨HB.out.1.below hb3,HB.out.2.1.below hb3,HB.out.2.2.1.trans (hb3.mono HB.out.2.2.1.size),(hb3.block _ hlt).trans HB.out.2.2.2⟩
 have Au:Hid (∀ g∈p.blocks,g < w.heap.size):=fun g hg=>pd g hg
 clear hown gn hb1 hb2 hb3 hq1 hlt pd
 obtain ⟨m0,m1,m2,m3,m4,m5,m6,m7⟩:=HB.out.1.cells
 unfold af.cells
 go_wp2_with fail
 generalize W1.alloc (.cells q.row 32)=W2 at *
 clear m0 m1 m2 m3 m4 m6 m7
 generalize W1.heap.size=o at *
 go_loop [7] (fun i=> ∃ k:Nat,k≤p.ag.length∧i= .int .i64 k∧Hid (∀ y∈p.ag.take k,y.id < id)) (fun i=>p.ag.length - (Go.RowKit.intOf i).toNat)
 case atStart=>exact ⟨0,Nat.zero_le _,rfl,fun y hy=>by simp at hy⟩
 case round=>
  obtain ⟨k,hk,rfl,HA⟩:=hrel
  have i0:(0:Int)≤(k:Int):=by omega
  have icap:(k:Int)≤(p.aP:Int):=by omega
  have i2:(k:Int)≤(p.ag.length:Int):=by omega
  rcases zm (fun y:az=>y.id) id p.ag k with ⟨x,hx,hc,hlt⟩ | ⟨x,hx,hc,hlt⟩ | hlt
  ·have HT:Hid (∀ y∈p.ag.take (k+1),y.id < id):=nE hx HA.out hc
   have i1:(k:Int) < (p.ag.length:Int):=by omega
   obtain ⟨g,ha,hat⟩:=jr HB.out.2.1.at.2.2.2.1 hx
   have c0:=hat.1
   have m:=m5
   rw [ha] at m
   clear m5 hat hx
   go_wp2
   go_round
   case rel=>exact ⟨k+1,by omega,by go_num,HT.out⟩
   case measure=>simp [Go.RowKit.intOf]; omega
  focus
   have HX:Hid (∀ y,p.ag[k]? =some y→ ¬ y.id < id):=fun y hy e=>by rw [hx] at hy; cases hy; exact hc e
   have i1:(k:Int) < (p.ag.length:Int):=by omega
   obtain ⟨g,ha,hat⟩:=jr HB.out.2.1.at.2.2.2.1 hx
   have c0:=hat.1
   have m:=m5
   rw [ha] at m
   clear m5 hat hx ha
  rotate_left
  focus
   have HX:Hid (∀ y,p.ag[k]? =some y→ ¬ y.id < id):=fun y hy=>absurd (List.getElem?_eq_some_iff.1 hy).1 hlt
   have i1: ¬ (k:Int) < (p.ag.length:Int):=by omega
   have m:=m5
   clear m5
  all_goals
   have hkl:(p.ag.take k).length=k:=by rw [List.length_take]; omega
   have hb3:Below W2.heap.size W2 (W2.alloc (.cells #[] 141)):=(Below.refl _ _).alloc (Nat.le_refl _) _
   obtain ⟨a5,c5,w5,hap,oe,A7,-⟩:=pX (W2.alloc (.cells #[] 141)) W2.heap.size (some ⟨W2.heap.size,0,none⟩) 0 [] (i6 (heap_alloc_new _ _) (Nat.le_refl _)) p.ax (p.ag.take k) p.aP (uM k (HB.out.2.1.below hb3).at.2.2.2.1.1) (by rw [hkl]; show 0+k≤_; omega) hb3.size
   rw [hkl] at hap oe
   simp only [List.length_nil,Nat.zero_add,List.nil_append] at hap oe
   have iJ:Below W2.heap.size W2 w5:=hb3.grown A7 hb3.size fun c e=>by cases e; exact Nat.le_refl _
   have jQ:Below w5.heap.size w5 (w5.alloc (.cells #[.int .i64 id,.bool false,.string ⟨#[]⟩] 141)):=(Below.refl _ _).alloc (Nat.le_refl _) _
   have yJ:Below W2.heap.size W2 (w5.alloc (.cells #[.int .i64 id,.bool false,.string ⟨#[]⟩] 141)):=iJ.trans (jQ.mono iJ.size)
   have qH:(w5.alloc (.cells #[.int .i64 id,.bool false,.string ⟨#[]⟩] 141)).ownsRow W2.heap.size 141 3 (.slice a5 (p.ag.take k).length c5) (p.ag.take k).length (bG.flat (p.ag.take k)):=by rw [hkl]; exact cR oe jQ
   obtain ⟨a7,c7,w7,gT,mP,xI,-⟩:=pX (w5.alloc (.cells #[.int .i64 id,.bool false,.string ⟨#[]⟩] 141)) W2.heap.size a5 c5 (p.ag.take k) qH (some ⟨w5.heap.size,0,none⟩) [(⟨id,false,⟨#[]⟩⟩:az)] 1 (jO (heap_alloc_new _ _)) (by rw [hkl]; show k+1≤_; omega) yJ.size
   have mI:(p.ag.take k ++ [(⟨id,false,⟨#[]⟩⟩:az)]).length=k+1:=by rw [List.length_append,hkl]; rfl
   rw [hkl] at gT mP
   simp only [List.length_cons,List.length_nil,Nat.zero_add] at gT mP
   have gh:Below W2.heap.size W2 w7:=yJ.grown xI yJ.size fun c e=>(cf oe (di e)).1
   have Em:Hid (w7.ownsRow W2.heap.size 141 3 (.slice a7 (k+1) c7) (k+1) (bG.flat (p.ag.take k ++ [(⟨id,false,⟨#[]⟩⟩:az)]))∧Below W2.heap.size W2 w7∧(p.ag.take k ++ [(⟨id,false,⟨#[]⟩⟩:az)]).length=k+1):=⟨mP,gh,mI⟩
   have m2:(W2.alloc (.cells #[] 141)).cell? ⟨w.heap.size,5,none⟩=some (.slice p.ax p.ag.length p.aP):=(HB.out.1.below hb3).cells.2.2.2.2.2.1
   have hbo:W2.heap.size≤w7.heap.size:=gh.size
   obtain ⟨⟨u,co⟩,fo⟩:(∃ u,w7.cell? ⟨o,5,none⟩=some u)∧w7.frozen? ⟨o,5,none⟩=false:=⟨⟨_,(HQ.out.1.below gh).cells.2.2.2.2.2.1⟩,frozen_of_row _ _ _ _ _ (HQ.out.1.below gh)⟩
   clear oe A7 iJ jQ yJ qH mP xI gh hb3 mI
   go_wp2_with (at_builtin; first | (refine br _ rfl _ _ 28 rfl _ _ _ _ rfl rfl hap ?_; clear hap) | (refine br _ rfl _ _ 28 rfl _ _ _ _ rfl rfl gT ?_; clear gT))
   have H8:Hid (((av (w7.setCell ⟨o,5,none⟩ (.slice a7 (k+1) c7)) w.heap.size p∧ap (w7.setCell ⟨o,5,none⟩ (.slice a7 (k+1) c7)) b0 p∧Below w.heap.size w (w7.setCell ⟨o,5,none⟩ (.slice a7 (k+1) c7))∧(w7.setCell ⟨o,5,none⟩ (.slice a7 (k+1) c7)).heap[w.heap.size+1]? =some (.cells ar 32 (0,0)))∧(w7.setCell ⟨o,5,none⟩ (.slice a7 (k+1) c7)).heap[o]? =some (.cells #[.int .i64 q.id,.int .i64 q.next,.slice q.aN q.procs.length q.aW,.slice q.bc q.aj.length q.bF,.slice q.ay q.events.length q.aO,.slice a7 (k+1) c7,.slice q.am q.ae.length q.aG,.slice q.aK q.ai.length q.aV] 32 (0,0))∧ap (w7.setCell ⟨o,5,none⟩ (.slice a7 (k+1) c7)) W.heap.size q)∧(w7.setCell ⟨o,5,none⟩ (.slice a7 (k+1) c7)).ownsRow W2.heap.size 141 3 (.slice a7 (k+1) c7) (k+1) (bG.flat (p.ag.take k ++ [(⟨id,false,⟨#[]⟩⟩:az)]))∧W2.heap.size≤(w7.setCell ⟨o,5,none⟩ (.slice a7 (k+1) c7)).heap.size):=by
    have gh:=Em.out.2.1
    have hq:=HQ.out
    have lY:Below w.heap.size w w7:=HB.out.2.2.1.trans (gh.mono (by have:=HB.out.2.2.1.size; omega))
    refine ⟨⟨⟨(aH (by omega)).trans (HB.out.1.below gh),(HB.out.2.1.below gh).same fun g hg=>aH (fun e=> ?_),bP lY (by omega),(aH (by omega)).trans ((gh.block _ (by omega)).trans HB.out.2.2.2)⟩,cx (HQ.out.1.below gh),(HQ.out.2.1.below gh).same fun g hg=>aH (by have:=HQ.out.2.2.2.1 g hg; omega)⟩,aL Em.out.1 fun g hg=>aH (by have:=(cf Em.out.1 hg).1; omega),?_⟩
    ·have:=Au.out g hg; omega
    ·rw [ja]; exact gh.size
   generalize w7.setCell ⟨o,5,none⟩ (.slice a7 (k+1) c7)=W8 at *
   have HS:Hid (W8.cell? ⟨w.heap.size,5,none⟩=some (.slice p.ax p.ag.length p.aP)):=H8.out.1.1.1.cells.2.2.2.2.2.1
   have co8:W8.drew.cell? ⟨o,5,none⟩=some (.slice a7 (k+1) c7):=by rw [cell_of_row _ _ _ _ _ _ (show W8.drew.heap[o]? =_ from H8.out.1.2.1)]; rfl
   clear m m2 co fo hbo i1 hlt
   obtain ⟨aS,Jx⟩: ∃ aS,(if p.aP=k then p.ax else Option.map (fun x=>x.add (k * 3)) p.ax)=aS:=⟨_,rfl⟩
   refine wp_region_held_drew (S:=fun w'=>w'.cell? ⟨w.heap.size,5,none⟩=some (.slice p.ax p.ag.length p.aP)) (by kernel_rfl) HS.out (fun hHeld=> ?_)
   refine tk 0 (v:= ?_) ?_ hHeld ?_; rotate_left; (intro w0 hS0; have cm:=hS0; go_simp; try with_reducible rfl); simp only [pt,sb,s0,s1]
   refine tk 2 (v:= ?_) ?_ hHeld ?_; rotate_left; (intro w0 hS0; have cm:=hS0; go_simp; try with_reducible rfl); simp only [pt,sb,s0,s1]
   refine tk 3 (v:= ?_) ?_ hHeld ?_; rotate_left; (intro w0 hS0; have cm:=hS0; go_simp; try with_reducible rfl); simp only [pt,sb,s0,s1]
   refine tk 4 (v:= ?_) ?_ hHeld ?_; rotate_left; (intro w0 hS0; have cm:=hS0; go_simp; try with_reducible rfl); simp only [pt,sb,s0,s1]
   refine tk 5 (v:= ?_) ?_ hHeld ?_; rotate_left; (intro w0 hS0; have cm:=hS0; go_simp; try with_reducible rfl); simp only [pt,sb,s0,s1]
   refine wpAnyH_ready (rs:= [1]) (by kernel_rfl) (by simp) ?_
   refine AllReadyH.cons rfl (fun K hK=> ?_) AllReadyH.nil
   simp only [List.getElem_toArray,List.getElem_cons_zero,List.getElem_cons_succ]
   rw [if_pos (by rfl)]
   go_wp2_with fail
   refine hK.out _ _ HS.out (fun hHeld=> ?_)
   clear hK K
   try simp only [pt,sb,s0,s1]
   have hbd:Below W8.heap.size W8 W8.drew:=(Below.refl _ _).drew
   have mI:=Em.out.2.2
   have hkd:(p.ag.drop k).length=p.ag.length - k:=List.length_drop
   obtain ⟨a9,c9,w9,hr,xj,FW,-⟩:=pX W8.drew W2.heap.size a7 c7 (p.ag.take k ++ [(⟨id,false,⟨#[]⟩⟩:az)]) (by rw [mI]; exact cR H8.out.2.1 hbd) aS (p.ag.drop k) (p.aP - k) (by rw [← Jx]; exact qK hcap (H8.out.1.1.2.1.below hbd).at.2.2.2.1.1) (by rw [mI,hkd]; omega) H8.out.2.2
   rw [mI,hkd] at hr xj
   have kN:Below W2.heap.size W8.drew w9:=(Below.refl _ _).grown (a:=W8.drew) FW H8.out.2.2 fun c e=>(cf H8.out.2.1 (di e)).1
   have hq:=HQ.out
   have h8:=H8.out
   have p7:o < W2.heap.size:=hq.2.2.2.2.2.2
   have hwl:w.heap.size+1 < o:=by omega
   have lV:w9.heap[o]? =some (.cells #[.int .i64 q.id,.int .i64 q.next,.slice q.aN q.procs.length q.aW,.slice q.bc q.aj.length q.bF,.slice q.ay q.events.length q.aO,.slice a7 (k+1) c7,.slice q.am q.ae.length q.aG,.slice q.aK q.ai.length q.aV] 32 (0,0)):=(kN.block _ p7).trans h8.1.2.1
   have H9:Hid (w9.cell? ⟨w.heap.size,5,none⟩=some (.slice p.ax p.ag.length p.aP)∧(w9.setCell ⟨o,5,none⟩ (.slice a9 (k+1+(p.ag.length - k)) c9)).cell? ⟨w.heap.size,5,none⟩=some (.slice p.ax p.ag.length p.aP)):=by
    have e1:w9.cell? ⟨w.heap.size,5,none⟩=some (.slice p.ax p.ag.length p.aP):=(World.cell?_of_block (kN.block _ (by show w.heap.size < _; omega))).trans HS.out
    exact ⟨e1,(World.cell?_of_block (aH (by show w.heap.size≠o; omega))).trans e1⟩
   have sR:((p.ag.take k ++ [(⟨id,false,⟨#[]⟩⟩:az)]) ++ p.ag.drop k).length=k+1+(p.ag.length - k):=by rw [List.length_append,mI,hkd]
   have gn:({ q with ag:=(p.ag.take k ++ [(⟨id,false,⟨#[]⟩⟩:az)]) ++ p.ag.drop k,ax:=a9,aP:=c9 } :af).pure= { p.pure with ag:=cA (·.id) (⟨id,false,⟨#[]⟩⟩:az) p.pure.ag } :=by
    have e1:(p.ag.take k ++ [(⟨id,false,⟨#[]⟩⟩:az)]) ++ p.ag.drop k=cA (·.id) (⟨id,false,⟨#[]⟩⟩:az) p.pure.ag:=by
     rw [List.append_assoc]
     exact tP HA.out (fun y hy=>by have h5:=HX.out y hy; show ¬ y.id < id; omega)
    have e2:=HQ.out.2.2.1
    show ({ q.pure with ag:=(p.ag.take k ++ [(⟨id,false,⟨#[]⟩⟩:az)]) ++ p.ag.drop k } :aE)=_
    rw [e1,e2]
   have eX:Hid (av (w9.setCell ⟨o,5,none⟩ (.slice a9 (k+1+(p.ag.length - k)) c9)) w.heap.size p∧ap (w9.setCell ⟨o,5,none⟩ (.slice a9 (k+1+(p.ag.length - k)) c9)) b0 p∧Below w.heap.size w (w9.setCell ⟨o,5,none⟩ (.slice a9 (k+1+(p.ag.length - k)) c9))∧(w9.setCell ⟨o,5,none⟩ (.slice a9 (k+1+(p.ag.length - k)) c9)).heap[w.heap.size+1]? =some (.cells ar 32 (0,0))∧av (w9.setCell ⟨o,5,none⟩ (.slice a9 (k+1+(p.ag.length - k)) c9)) o ({ q with ag:=(p.ag.take k ++ [(⟨id,false,⟨#[]⟩⟩:az)]) ++ p.ag.drop k,ax:=a9,aP:=c9 } :af)∧ap (w9.setCell ⟨o,5,none⟩ (.slice a9 (k+1+(p.ag.length - k)) c9)) W.heap.size ({ q with ag:=(p.ag.take k ++ [(⟨id,false,⟨#[]⟩⟩:az)]) ++ p.ag.drop k,ax:=a9,aP:=c9 } :af)∧({ q with ag:=(p.ag.take k ++ [(⟨id,false,⟨#[]⟩⟩:az)]) ++ p.ag.drop k,ax:=a9,aP:=c9 } :af).pure= { p.pure with ag:=cA (·.id) (⟨id,false,⟨#[]⟩⟩:az) p.pure.ag }):=by
    have hpb: ∀ g∈p.blocks,g < w.heap.size:=Au.out
    have nW: ∀ g∈q.blocks,g < o:=hq.2.2.2.1
    have sm: ∀ g,g < W2.heap.size→g≠o→(w9.setCell ⟨o,5,none⟩ (.slice a9 (k+1+(p.ag.length - k)) c9)).heap[g]? =W8.heap[g]? :=fun g hg hne=>(aH hne).trans (kN.block _ hg)
    have lY:Below w.heap.size w (w9.setCell ⟨o,5,none⟩ (.slice a9 (k+1+(p.ag.length - k)) c9)):=bP (h8.1.1.2.2.1.drew.trans (kN.mono (by omega))) (by omega)
    refine ⟨(sm _ (by omega) (by omega)).trans h8.1.1.1,h8.1.1.2.1.same fun g hg=>sm g (by have:=hpb g hg; omega) (by have:=hpb g hg; omega),lY,(sm _ (by omega) (by omega)).trans h8.1.1.2.2.2,?_,?_,gn⟩
    ·have h5:=cx (i:=5) (v:= .slice a9 (k+1+(p.ag.length - k)) c9) lV
     unfold av
     simp only [sR]
     exact h5
    ·refine h8.1.2.2.GV (B:=W2.heap.size) (by omega) (fun g hg=>by have:=nW g hg; omega) (fun g hg=>sm g (by have:=nW g hg; omega) (by have:=nW g hg; omega)) ?_
     rw [sR]
     exact aL xj fun g hg=>aH (by have:=(cf xj hg).1; omega)
   refine wpAnyH_ready (rs:= [6]) (by kernel_rfl) (by simp) ?_
   refine AllReadyH.cons rfl (fun K hK=> ?_) AllReadyH.nil
   simp only [List.getElem_toArray,List.getElem_cons_zero,List.getElem_cons_succ]
   rw [if_pos (by rfl)]
   refine cM _ _ _ rfl _ _ _ w9 rfl rfl hr ?_
   refine hK.out _ _ H9.out.1 (fun hHeld=> ?_)
   clear hK K
   try simp only [pt,sb,s0,s1]
   obtain ⟨⟨u,co⟩,fo⟩:(∃ u,w9.cell? ⟨o,5,none⟩=some u)∧w9.frozen? ⟨o,5,none⟩=false:=⟨⟨_,by rw [cell_of_row _ _ _ _ _ _ lV]; rfl⟩,frozen_of_row _ _ _ _ _ lV⟩
   clear hr xj FW kN hq h8 p7 hwl lV hbd
   refine tk 7 (v:= ?_) ?_ hHeld ?_; rotate_left; (intro w0 hS0; have cm:=hS0; go_simp; try with_reducible rfl); simp only [pt,sb,s0,s1]
   refine wpAnyH_ready (rs:= [8]) (by kernel_rfl) (by simp) ?_
   refine AllReadyH.cons rfl (fun K hK=> ?_) AllReadyH.nil
   simp only [List.getElem_toArray,List.getElem_cons_zero,List.getElem_cons_succ]
   rw [if_pos (by rfl)]
   go_wp2_with fail
   refine hK.out _ _ H9.out.2 (fun hHeld=> ?_)
   clear hK K
   try simp only [pt,sb,s0,s1]
   refine wpAnyH_done (by kernel_rfl) ?_ _
   clear hHeld co fo H9 HS co8
   generalize w9.setCell ⟨o,5,none⟩ (.slice a9 (k+1+(p.ag.length - k)) c9)=W10 at *
   have hcall:=fi p ({ q with ag:=(p.ag.take k ++ [(⟨id,false,⟨#[]⟩⟩:az)]) ++ p.ag.drop k,ax:=a9,aP:=c9 } :af) W10 ⟨fl.out.1,fl.out.2.1,eX.out.2.1.at⟩ (fun hr=>by
    have h5:aE.Small ({ q with ag:=(p.ag.take k ++ [(⟨id,false,⟨#[]⟩⟩:az)]) ++ p.ag.drop k,ax:=a9,aP:=c9 } :af).pure:=by rw [eX.out.2.2.2.2.2.2]; exact vR fl.out.2.2.1 hr ⟨fl.out.2.2.2,Nat.zero_le _⟩
    exact ⟨dV h5,fun x hx=>(cY h5 hx).1,eX.out.2.2.2.2.2.1.at⟩)
   obtain ⟨m0,m1,m2,m3,m4,m5,m6,m7⟩:=eX.out.1.cells
   obtain ⟨k0,k1,k2,k3,k4,k5,k6,k7⟩:=eX.out.2.2.2.2.1.cells
   unfold af.cells at hcall
   simp only [sR] at hcall k0 k1 k2 k3 k4 k5 k6 k7
   have DM:Hid (((p.ag.take k ++ [(⟨id,false,⟨#[]⟩⟩:az)]) ++ p.ag.drop k).length=k+1+(p.ag.length - k)):=sR
   clear sR mI hkd Jx gn
   go_wp2_with fail
   refine hcall.mono ?_
   clear hcall m0 m1 m2 m3 m4 m5 m6 m7 k0 k1 k2 k3 k4 k5 k6 k7
   rintro e ow ⟨gy,hok⟩
   have hq:=HQ.out.2.2.2.2
   have HZ:Hid (Below w.heap.size w ow∧ow.heap[w.heap.size+1]? =some (.cells ar 32 (0,0))∧ap ow W.heap.size ({ q with ag:=(p.ag.take k ++ [(⟨id,false,⟨#[]⟩⟩:az)]) ++ p.ag.drop k,ax:=a9,aP:=c9 } :af)∧w.heap.size+1 < W.heap.size):=⟨eX.out.2.2.1.trans (gy.mono eX.out.2.2.1.size),(gy.block _ (Array.getElem?_eq_some_iff.1 eX.out.2.2.2.1).1).trans eX.out.2.2.2.1,eX.out.2.2.2.2.2.1.below gy,hq.2.1⟩
   clear gy hq
   rw [eX.out.2.2.2.2.2.2] at hok
   rcases hok with ⟨hok,rfl⟩ | ⟨hok,rfl⟩
   ·have HN:Hid (cB p.pure { p.pure with ag:=cA (·.id) (⟨id,false,⟨#[]⟩⟩:az) p.pure.ag } =some { p.pure with ag:=cA (·.id) (⟨id,false,⟨#[]⟩⟩:az) p.pure.ag }):=jS hok
    clear hok
    go_wp2_with (refine ec 4 49 (w.heap.size+1) #[.int .i64 q.id,.int .i64 q.next,.slice q.aN q.procs.length q.aW,.slice q.bc q.aj.length q.bF,.slice q.ay q.events.length q.aO,.slice a9 (k+1+(p.ag.length - k)) c9,.slice q.am q.ae.length q.aG,.slice q.aK q.ai.length q.aV] HZ.out.2.1 ?_)
    refine mG Tryz.results40 (w.heap.size+1) #[.int .i64 q.id,.int .i64 q.next,.slice q.aN q.procs.length q.aW,.slice q.bc q.aj.length q.bF,.slice q.ay q.events.length q.aO,.slice a9 (k+1+(p.ag.length - k)) c9,.slice q.am q.ae.length q.aG,.slice q.aK q.ai.length q.aV] (.bool true) HZ.out.2.1 ?_
    have hl:=HZ.out.2.2.2
    rw [HN.out]
    refine ⟨({ q with ag:=(p.ag.take k ++ [(⟨id,false,⟨#[]⟩⟩:az)]) ++ p.ag.drop k,ax:=a9,aP:=c9 } :af),by unfold af.cells; simp only [DM.out]; rfl,(HZ.out.2.2.1.lower (by omega)).same fun g hg=>setRow_other _ _ _ _ (by have:=(HZ.out.2.2.1.lt g hg).1; omega),eX.out.2.2.2.2.2.2,below_setRow HZ.out.1 (by omega) _⟩
   ·have HN:Hid (cB p.pure { p.pure with ag:=cA (·.id) (⟨id,false,⟨#[]⟩⟩:az) p.pure.ag } =none):=jh hok
    clear hok
    go_wp2_with (refine ec 4 49 (w.heap.size+1) ar HZ.out.2.1 ?_)
    refine mG Tryz.results40 (w.heap.size+1) ar (.bool false) HZ.out.2.1 ?_
    exact ca HN.out (below_setRow HZ.out.1 (by omega) _)
def fE (code:Int) (x:ao):ao:=⟨jT code x.toaD,x.aY,x.bH⟩
abbrev CB (W w:World) (base:Nat) (q:af) (v:Array Value):Prop:=av W w.heap.size q∧W.heap[w.heap.size+1]? =some (.cells ar 32 (0,0))∧W.heap[w.heap.size+1+1]? =some (.cells v 43 (0,0))∧ap W base q∧Below w.heap.size w W
theorem aI.more {w w1 w2:World} {bs:List Nat} (h:aI w w1 bs) (hb:Below w.heap.size w1 w2):aI w w2 bs:=⟨hb.os.trans h.os,hb.tape.trans h.tape,hb.output.trans h.output,Nat.le_trans h.size hb.size,fun g hg hn=>(hb.block g hg).trans (h.same g hg hn)⟩
theorem ug {W w:World} {base gs n:Nat} {q:af} {x y:ao} {vs:List Value} (h1:av W w.heap.size q) (h2:W.heap[w.heap.size+1]? =some (.cells ar 32 (0,0))) (h3:w.heap.size+1+1 < W.heap.size) (h4:ap W base q) (h5:Below w.heap.size w W)
  (hx:q.procs[n]? =some x) (ha:q.aN=some ⟨gs,0,none⟩) (hb:base≤w.heap.size) (CT:base≤gs) (hg2:gs < w.heap.size) (yD: ∀ g∈q.blocks,g < w.heap.size) (hv:vs=bg.vals y) (hy:y.prog=x.prog∧y.aY=x.aY∧y.bH=x.bH):
  W.there gs (n * 12) 12∧ap (W.setCells gs (n * 12) vs) base ({ q with procs:=q.procs.set n y } :af)∧av (W.setCells gs (n * 12) vs) w.heap.size q∧(W.setCells gs (n * 12) vs).heap[w.heap.size+1]? =some (.cells ar 32 (0,0))∧Below base w (W.setCells gs (n * 12) vs)∧(∀ g∈({ q with procs:=q.procs.set n y } :af).blocks,g≠w.heap.size+1)∧aI w (W.setCells gs (n * 12) vs) [gs] :=by
 have hn:n < q.procs.length:=(List.getElem?_eq_some_iff.1 hx).1
 have hl:vs.length=12:=by rw [hv]; exact bg.len y
 have oC:W.there gs (n * 12) 12:=by
  obtain ⟨g,hg,hrow⟩:=bl.fX (K:=bg) h4.procs (by omega)
  rw [ha] at hg
  cases hg
  exact fun j hj=>⟨by have h7:=(hrow.cell hx (r:=j) hj).1; rw [show bg.n=12 from rfl] at h7; rw [h7,List.getElem?_eq_getElem (by rw [bg.len]; exact hj)]; rfl,(hrow.cell hx (r:=j) hj).2⟩
 have h7:=h4.kB (n:=n) (j:=0) (x:=x) (y:=y) (vs:=vs) hx ha hy (by omega) (fun r _=>by rw [Nat.zero_add,hv]) (fun r hr hn=>absurd ⟨Nat.zero_le _,by omega⟩ hn)
 rw [Nat.add_zero,← iL] at h7
 have hs: ∀ g,g≠gs→g < W.heap.size→(W.setCells gs (n * 12) vs).heap[g]? =W.heap[g]? :=fun g hg hl=>h7.2.1.same g hl (by simpa using hg)
 refine ⟨oC,h7.1,(hs _ (by omega) (by omega)).trans h1,(hs _ (by omega) (by omega)).trans h2,(h5.mono hb).trans (h7.2.1.below (by omega) (by simp; omega)),fun g hg e=> ?_,(aI.dI h5).trans h7.2.1⟩
 have h8:=yD g (h7.2.2 ▸ hg)
 omega
theorem ve (q:af) (n base:Nat) (x:ao) (code:Int) (w:World) (h:ap w base q) (hb:base≤w.heap.size) (hx:q.procs[n]? =some x) (hpc:0≤x.pc∧x.pc < x.prog.length) (hl:x.prog.length≤1048576):
  Calls Tryz.prog 219 #[.agg q.cells,.int .i64 n,.int .i64 code] w fun e w'=>e= .returned (.agg q.cells)∧ap w' base ({ q with procs:=q.procs.set n (fE code x) } :af)∧Below base w w'∧aI w w' (blk q.aN):=by
 obtain ⟨gs,ha,hat⟩:=cn h.at.1 hx
 have hgs:=cf h.procs (g:=gs) (by rw [ha]; simp [blk])
 have hnl:n < q.procs.length:=(List.getElem?_eq_some_iff.1 hx).1
 obtain ⟨qi,qn,ps,pA,pC,ss,sA,sC,es,eA,eC,bs,bA,bC,fs,fA,fC,ts,tA,tC⟩:=q
 simp only at ha
 subst ha
 obtain ⟨C,hC⟩: ∃ C:Array Value,C= #[.int .i64 qi,.int .i64 qn,.slice (some ⟨gs,0,none⟩) ps.length pC,.slice sA ss.length sC,.slice eA es.length eC,.slice bA bs.length bC,.slice fA fs.length fC,.slice tA ts.length tC] :=⟨_,rfl⟩
 obtain ⟨G,hG⟩: ∃ G:Array Value,G= #[.int .i64 x.id,.int .i64 x.prio,.slice x.aY x.prog.length x.bH,.int .i64 1,.int .i64 (x.pc+1),.int .i64 0,.int .i64 0,.int .i64 0,.string ⟨#[]⟩,.string x.got,.int .i64 code,.int .i64 x.since] :=⟨_,rfl⟩
 obtain ⟨D,hD⟩: ∃ D:af,D=(⟨qi,qn,ps,some ⟨gs,0,none⟩,pC,ss,sA,sC,es,eA,eC,bs,bA,bC,fs,fA,fC,ts,tA,tC⟩:af):=⟨_,rfl⟩
 obtain ⟨A,hA⟩: ∃ A:World,A=(w.alloc (.cells C 32)).alloc (.cells ar 32):=⟨_,rfl⟩
 obtain ⟨B,hB⟩: ∃ B:World,B=A.alloc (.cells G 43):=⟨_,rfl⟩
 have b1:Below w.heap.size w A:=by rw [hA]; exact dT _ _ _
 have b2:Below w.heap.size w B:=by rw [hB,hA]; exact fg _ _ _ _
 have h3:=dR w (.cells C 32) (.cells ar 32) (.cells G 43)
 have H6:Hid (CB B w base D G):=by subst hB hA hG hD hC; exact ⟨h3.1,h3.2.1,h3.2.2.1,h.below b2,b2⟩
 have HC:Hid (ps[n]? =some x∧base≤gs∧gs < w.heap.size∧base≤w.heap.size∧n < ps.length):=⟨hx,hgs.1,hgs.2,hb,hnl⟩
 obtain ⟨d0,d1,d2,d3,d4,d5,d6,d7,d8,d9,tH,tS⟩:ao.At A gs n x:=by
  obtain ⟨g,e,h5⟩:=cn (h.below b1).at.1 hx
  cases e
  exact h5
 have PBK:Hid (∀ g∈D.blocks,g < w.heap.size):=fun g hg=>(h.lt g (hD ▸ hg)).2
 obtain ⟨n0,n1⟩:=hpc
 have n2:x.pc≤1048576:=by omega
 have j0:(0:Int)≤(n:Int):=by omega
 have j1:(n:Int) < (ps.length:Int):=by have:n < ps.length:=hnl; omega
 clear h hb hx hgs hat b1 b2 h3 hnl hl
 subst hB hA hG hD hC
 unfold af.cells
 simp only
 go_enter Tryz.func219,Tryz.ntmps219
 by_cases hlen:x.pc+1=x.prog.length
 ·have PE:Hid (fE code x=(⟨j7 (jM code x.toaD),x.aY,x.bH⟩:ao)):=by show fE code x=_; unfold fE jT; rw [if_pos hlen]
  have e1:(x.pc+1 == (x.prog.length:Int))=true:=by simp [hlen]
  clear hlen n1
  have hcall:=mN (⟨jM code x.toaD,x.aY,x.bH⟩:ao)
  simp only [jM,rM] at hcall
  go_wp2_with fail
  clear d0 d1 d2 d3 d4 d5 d6 d7 d8 d9 tH tS e1
  refine (hcall _).mono ?_
  clear hcall
  rintro e w5 ⟨rfl,iJ⟩
  have H5:Hid (CB w5 w base (⟨qi,qn,ps,some ⟨gs,0,none⟩,pC,ss,sA,sC,es,eA,eC,bs,bA,bC,fs,fA,fC,ts,tA,tC⟩:af) #[.int .i64 x.id,.int .i64 x.prio,.slice x.aY x.prog.length x.bH,.int .i64 1,.int .i64 (x.pc+1),.int .i64 0,.int .i64 0,.int .i64 0,.string ⟨#[]⟩,.string x.got,.int .i64 code,.int .i64 x.since]):=⟨H6.out.1.below iJ,(iJ.block _ (Array.getElem?_eq_some_iff.1 H6.out.2.1).1).trans H6.out.2.1,(iJ.block _ (Array.getElem?_eq_some_iff.1 H6.out.2.2.1).1).trans H6.out.2.2.1,H6.out.2.2.2.1.below iJ,H6.out.2.2.2.2.trans (iJ.mono H6.out.2.2.2.2.size)⟩
  have H8:Hid (CB (w5.setRow (w.heap.size+1+1) #[.int .i64 x.id,.int .i64 x.prio,.slice x.aY x.prog.length x.bH,.int .i64 0,.int .i64 0,.int .i64 0,.int .i64 0,.int .i64 0,.string ⟨#[]⟩,.string x.got,.int .i64 code,.int .i64 0]) w base (⟨qi,qn,ps,some ⟨gs,0,none⟩,pC,ss,sA,sC,es,eA,eC,bs,bA,bC,fs,fA,fC,ts,tA,tC⟩:af) #[.int .i64 x.id,.int .i64 x.prio,.slice x.aY x.prog.length x.bH,.int .i64 0,.int .i64 0,.int .i64 0,.int .i64 0,.int .i64 0,.string ⟨#[]⟩,.string x.got,.int .i64 code,.int .i64 0]):=by
   refine ⟨(setRow_other _ _ _ _ (by omega)).trans H5.out.1,(setRow_other _ _ _ _ (by omega)).trans H5.out.2.1,setRow_heap _ _ _ _ _ _ H5.out.2.2.1,H5.out.2.2.2.1.same fun g hg=>setRow_other _ _ _ _ (by have:=PBK.out g hg; omega),below_setRow H5.out.2.2.2.2 (by omega) _⟩
  clear iJ H6
  obtain ⟨m0,m1,m2,m3,m4,m5,m6,m7⟩:=H8.out.1.cells
  obtain ⟨r0,r1,r2,r3,r4,r5,r6,r7,r8,r9,Ju,Jq⟩:=bo (x:=(⟨j7 (jM code x.toaD),x.aY,x.bH⟩:ao)) H8.out.2.2.1
  have hz:=ug (y:=(⟨j7 (jM code x.toaD),x.aY,x.bH⟩:ao)) (vs:=(#[.int .i64 x.id,.int .i64 x.prio,.slice x.aY x.prog.length x.bH,.int .i64 0,.int .i64 0,.int .i64 0,.int .i64 0,.int .i64 0,.string ⟨#[]⟩,.string x.got,.int .i64 code,.int .i64 0] :Array Value).toList) H8.out.1 H8.out.2.1 (Array.getElem?_eq_some_iff.1 H8.out.2.2.1).1 H8.out.2.2.2.1 H8.out.2.2.2.2 HC.out.1 rfl HC.out.2.2.2.1 HC.out.2.1 HC.out.2.2.1 PBK.out rfl ⟨rfl,rfl,rfl⟩
  have oC:=hz.1
  have HZ:Hid (_):=hz.2
  clear hz
  simp only [j7,jM] at r0 r1 r2 r3 r4 r5 r6 r7 r8 r9 Ju Jq
  dsimp only
  repeat (first | (go_big_may; first | (refine wpList_store_row rfl 43 (Operand.tmp 7) (Operand.tmp 31) rfl (w.heap.size+1+1) _ _ #[.int .i64 x.id,.int .i64 x.prio,.slice x.aY x.prog.length x.bH,.int .i64 0,.int .i64 0,.int .i64 0,.int .i64 0,.int .i64 0,.string ⟨#[]⟩,.string x.got,.int .i64 code,.int .i64 0] rfl rfl H5.out.2.2.1 (by kernel_rfl) rfl (by kernel_rfl) ?_) | (refine wpList_store_mid rfl 43 (Operand.tmp 36) (Operand.tmp 35) rfl gs (n * 12) #[.int .i64 x.id,.int .i64 x.prio,.slice x.aY x.prog.length x.bH,.int .i64 0,.int .i64 0,.int .i64 0,.int .i64 0,.int .i64 0,.string ⟨#[]⟩,.string x.got,.int .i64 code,.int .i64 0] rfl rfl ?ht (by kernel_rfl) (by kernel_rfl) ?_)) | go_values | go_skip | go_guarded | go_step | go_upon)
  case ht=>exact oC
  clear oC m0 m1 m2 m3 m4 m5 m6 m7 r0 r1 r2 r3 r4 r5 r6 r7 r8 r9 Ju Jq
  generalize World.setCells (w5.setRow (w.heap.size+1+1) #[.int .i64 x.id,.int .i64 x.prio,.slice x.aY x.prog.length x.bH,.int .i64 0,.int .i64 0,.int .i64 0,.int .i64 0,.int .i64 0,.string ⟨#[]⟩,.string x.got,.int .i64 code,.int .i64 0]) gs (n * 12) (#[.int .i64 x.id,.int .i64 x.prio,.slice x.aY x.prog.length x.bH,.int .i64 0,.int .i64 0,.int .i64 0,.int .i64 0,.int .i64 0,.string ⟨#[]⟩,.string x.got,.int .i64 code,.int .i64 0] :Array Value).toList=WZ at *
  obtain ⟨k0,k1,k2,k3,k4,k5,k6,k7⟩:=HZ.out.2.1.cells
  go_wp2_with (refine ec 6 37 (w.heap.size+1) #[.int .i64 qi,.int .i64 qn,.slice (some ⟨gs,0,none⟩) ps.length pC,.slice sA ss.length sC,.slice eA es.length eC,.slice bA bs.length bC,.slice fA fs.length fC,.slice tA ts.length tC] HZ.out.2.2.1 ?_)
  refine gZ Tryz.results219 (w.heap.size+1) #[.int .i64 qi,.int .i64 qn,.slice (some ⟨gs,0,none⟩) ps.length pC,.slice sA ss.length sC,.slice eA es.length eC,.slice bA bs.length bC,.slice fA fs.length fC,.slice tA ts.length tC] HZ.out.2.2.1 ?_
  rw [PE.out]
  exact ⟨rfl,HZ.out.1.same fun g hg=>setRow_other _ _ _ _ (HZ.out.2.2.2.2.1 g hg),below_setRow HZ.out.2.2.2.1 (by have:=HC.out.2.2.2.1; omega) _,HZ.out.2.2.2.2.2.more (below_setRow (Below.refl _ _) (by omega) _)⟩
 ·have PE:Hid (fE code x=(⟨jM code x.toaD,x.aY,x.bH⟩:ao)):=by show fE code x=_; unfold fE jT; rw [if_neg hlen]
  have e1:(x.pc+1 == (x.prog.length:Int))=false:=by simp [hlen]
  clear hlen n1
  obtain ⟨m0,m1,m2,m3,m4,m5,m6,m7⟩:=H6.out.1.cells
  obtain ⟨r0,r1,r2,r3,r4,r5,r6,r7,r8,r9,Ju,Jq⟩:=bo (x:=(⟨jM code x.toaD,x.aY,x.bH⟩:ao)) H6.out.2.2.1
  have hz:=ug (y:=(⟨jM code x.toaD,x.aY,x.bH⟩:ao)) (vs:=(#[.int .i64 x.id,.int .i64 x.prio,.slice x.aY x.prog.length x.bH,.int .i64 1,.int .i64 (x.pc+1),.int .i64 0,.int .i64 0,.int .i64 0,.string ⟨#[]⟩,.string x.got,.int .i64 code,.int .i64 x.since] :Array Value).toList) H6.out.1 H6.out.2.1 (Array.getElem?_eq_some_iff.1 H6.out.2.2.1).1 H6.out.2.2.2.1 H6.out.2.2.2.2 HC.out.1 rfl HC.out.2.2.2.1 HC.out.2.1 HC.out.2.2.1 PBK.out rfl ⟨rfl,rfl,rfl⟩
  have oC:=hz.1
  have HZ:Hid (_):=hz.2
  clear hz
  simp only [jM] at r0 r1 r2 r3 r4 r5 r6 r7 r8 r9 Ju Jq
  repeat (first | (go_big_may; first | (refine wpList_store_mid rfl 43 (Operand.tmp 36) (Operand.tmp 35) rfl gs (n * 12) #[.int .i64 x.id,.int .i64 x.prio,.slice x.aY x.prog.length x.bH,.int .i64 1,.int .i64 (x.pc+1),.int .i64 0,.int .i64 0,.int .i64 0,.string ⟨#[]⟩,.string x.got,.int .i64 code,.int .i64 x.since] rfl rfl ?ht (by kernel_rfl) (by kernel_rfl) ?_)) | go_values | go_skip | go_guarded | go_step | go_upon)
  case ht=>exact oC
  clear oC m0 m1 m2 m3 m4 m5 m6 m7 r0 r1 r2 r3 r4 r5 r6 r7 r8 r9 Ju Jq
  generalize World.setCells _ gs (n * 12) (#[.int .i64 x.id,.int .i64 x.prio,.slice x.aY x.prog.length x.bH,.int .i64 1,.int .i64 (x.pc+1),.int .i64 0,.int .i64 0,.int .i64 0,.string ⟨#[]⟩,.string x.got,.int .i64 code,.int .i64 x.since] :Array Value).toList=WZ at *
  obtain ⟨k0,k1,k2,k3,k4,k5,k6,k7⟩:=HZ.out.2.1.cells
  go_wp2_with (refine ec 6 37 (w.heap.size+1) #[.int .i64 qi,.int .i64 qn,.slice (some ⟨gs,0,none⟩) ps.length pC,.slice sA ss.length sC,.slice eA es.length eC,.slice bA bs.length bC,.slice fA fs.length fC,.slice tA ts.length tC] HZ.out.2.2.1 ?_)
  refine gZ Tryz.results219 (w.heap.size+1) #[.int .i64 qi,.int .i64 qn,.slice (some ⟨gs,0,none⟩) ps.length pC,.slice sA ss.length sC,.slice eA es.length eC,.slice bA bs.length bC,.slice fA fs.length fC,.slice tA ts.length tC] HZ.out.2.2.1 ?_
  rw [PE.out]
  exact ⟨rfl,HZ.out.1.same fun g hg=>setRow_other _ _ _ _ (HZ.out.2.2.2.2.1 g hg),below_setRow HZ.out.2.2.2.1 (by have:=HC.out.2.2.2.1; omega) _,HZ.out.2.2.2.2.2.more (below_setRow (Below.refl _ _) (by omega) _)⟩
theorem Bt {W w:World} {base gs n:Nat} {q:af} {x:ao} {nx:Int} (h1:av W w.heap.size q) (h2:W.heap[w.heap.size+1]? =some (.cells ar 32 (0,0))) (h4:ap W base q) (h5:Below w.heap.size w W)
  (hx:q.procs[n]? =some x) (ha:q.aN=some ⟨gs,0,none⟩) (hb:base≤w.heap.size) (CT:base≤gs) (hg2:gs < w.heap.size) (yD: ∀ g∈q.blocks,g < w.heap.size):
  ((∃ u,W.cell? ⟨gs,n * 12+11,none⟩=some u)∧W.frozen? ⟨gs,n * 12+11,none⟩=false)∧ap (W.setCell ⟨gs,n * 12+11,none⟩ (.int .i64 nx)) base ({ q with procs:=q.procs.set n { x with since:=nx } } :af)∧av (W.setCell ⟨gs,n * 12+11,none⟩ (.int .i64 nx)) w.heap.size q∧(W.setCell ⟨gs,n * 12+11,none⟩ (.int .i64 nx)).heap[w.heap.size+1]? =some (.cells ar 32 (0,0))∧Below base w (W.setCell ⟨gs,n * 12+11,none⟩ (.int .i64 nx))∧(∀ g∈({ q with procs:=q.procs.set n { x with since:=nx } } :af).blocks,g < w.heap.size)∧aI w (W.setCell ⟨gs,n * 12+11,none⟩ (.int .i64 nx)) [gs] :=by
 have hn:n < q.procs.length:=(List.getElem?_eq_some_iff.1 hx).1
 have hc:(∃ u,W.cell? ⟨gs,n * 12+11,none⟩=some u)∧W.frozen? ⟨gs,n * 12+11,none⟩=false:=by
  obtain ⟨g,hg,hrow⟩:=bl.fX (K:=bg) h4.procs (by omega)
  rw [ha] at hg
  cases hg
  exact ⟨⟨_,(hrow.cell hx (r:=11) (by decide)).1⟩,(hrow.cell hx (r:=11) (by decide)).2⟩
 have h7:=h4.kB (n:=n) (j:=11) (x:=x) (y:= { x with since:=nx }) (vs:= [.int .i64 nx]) hx ha ⟨rfl,rfl,rfl⟩ (by show 11+1≤12; omega) (fun r hr=>by match r,hr with | 0,_=>rfl) (fun r hr hn=>by
  have hne:r≠11:=fun e=>hn ⟨by omega,by show r < 11+1; omega⟩
  match r,hr,hne with | 0,_,_=>rfl | 1,_,_=>rfl | 2,_,_=>rfl | 3,_,_=>rfl | 4,_,_=>rfl | 5,_,_=>rfl | 6,_,_=>rfl | 7,_,_=>rfl | 8,_,_=>rfl | 9,_,_=>rfl | 10,_,_=>rfl | 11,_,hne=>exact absurd rfl hne)
 simp only [bn] at h7
 have l1:=(Array.getElem?_eq_some_iff.1 h2).1
 have hs: ∀ g,g≠gs→(W.setCell ⟨gs,n * 12+11,none⟩ (.int .i64 nx)).heap[g]? =W.heap[g]? :=fun g hg=>aH hg
 exact ⟨hc,h7.1,(hs _ (by omega)).trans h1,(hs _ (by omega)).trans h2,(h5.mono hb).trans (h7.2.1.below (by have:=h5.size; omega) (by simp; omega)),fun g hg=>yD g (h7.2.2 ▸ hg),(aI.dI h5).trans h7.2.1⟩
theorem qG (q:af) (n base:Nat) (x:ao) (w:World) (h:ap w base q) (hb:base≤w.heap.size) (hx:q.procs[n]? =some x) (hn:0≤q.next∧q.next≤1000000000):
  Calls Tryz.prog 98 #[.agg q.cells,.int .i64 n] w fun e w'=> ∃ q2:af,e= .returned (.agg q2.cells)∧q2= { q with next:=q.next+1,procs:=q.procs.set n { x with since:=q.next } } ∧ap w' base q2∧Below base w w'∧aI w w' (blk q.aN):=by
 obtain ⟨gs,ha,-⟩:=cn h.at.1 hx
 have hgs:=cf h.procs (g:=gs) (by rw [ha]; simp [blk])
 have hnl:n < q.procs.length:=(List.getElem?_eq_some_iff.1 hx).1
 have b1:Below w.heap.size w ((w.alloc (.cells q.cells 32)).alloc (.cells ar 32)):=dT _ _ _
 have h2:=cZ w (.cells q.cells 32) (.cells ar 32)
 have hz:=Bt (nx:=q.next) h2.1 h2.2 (h.below b1) b1 hx ha hb hgs.1 hgs.2 fun g hg=>(h.lt g hg).2
 obtain ⟨⟨⟨u,pe⟩,f11⟩,hz⟩:=hz
 have H2:Hid (_):=hz
 have HB:Hid (av ((w.alloc (.cells q.cells 32)).alloc (.cells ar 32)) w.heap.size q∧base≤w.heap.size∧q.aN=some ⟨gs,0,none⟩):=⟨h2.1,hb,ha⟩
 have H3:Hid ((((w.alloc (.cells q.cells 32)).alloc (.cells ar 32)).setCell ⟨gs,n * 12+11,none⟩ (.int .i64 q.next)).setCell ⟨w.heap.size,1,none⟩ (.int .i64 (q.next+1)) |> fun W=>av W w.heap.size { q with next:=q.next+1 } ∧W.heap[w.heap.size+1]? =some (.cells ar 32 (0,0))∧ap W base { q with next:=q.next+1,procs:=q.procs.set n { x with since:=q.next } } ∧Below base w W∧(∀ g∈({ q with procs:=q.procs.set n { x with since:=q.next } } :af).blocks,g < w.heap.size)∧aI w W [gs]):=by
  have ho:=hz.1.same (w':=(((w.alloc (.cells q.cells 32)).alloc (.cells ar 32)).setCell ⟨gs,n * 12+11,none⟩ (.int .i64 q.next)).setCell ⟨w.heap.size,1,none⟩ (.int .i64 (q.next+1))) fun g hg=>aH (by have:=hz.2.2.2.2.1 g hg; omega)
  exact ⟨cx (i:=1) (v:= .int .i64 (q.next+1)) hz.2.1,(aH (by omega)).trans hz.2.2.1,⟨ho.procs,ho.aj,ho.events,ho.ag,ho.ae,ho.ai,ho.eI,ho.eE,ho.eR,ho.nodup⟩,bP hz.2.2.2.1 hb,hz.2.2.2.2.1,hz.2.2.2.2.2.more (bP (Below.refl _ _) (Nat.le_refl _))⟩
 have k1f:(((w.alloc (.cells q.cells 32)).alloc (.cells ar 32)).setCell ⟨gs,n * 12+11,none⟩ (.int .i64 q.next)).frozen? ⟨w.heap.size,1,none⟩=false:=frozen_of_row _ _ _ _ _ hz.2.1
 have k1:=hz.2.1.cells.2.1
 obtain ⟨-,m1,m2,-⟩:=h2.1 |> av.cells (p:=q)
 obtain ⟨r0,r1,r2,r3,r4,r5,r6,r7⟩:=H3.out.1.cells
 have j0:(0:Int)≤(n:Int):=by omega
 have j1:(n:Int) < (q.procs.length:Int):=by omega
 obtain ⟨n0,n1⟩:=hn
 clear h hb hx b1 h2 hz hgs hnl
 rw [ha] at m2
 unfold af.cells at *
 simp only [HB.out.2.2] at *
 go_enter Tryz.func98,Tryz.ntmps98
 go_wp2_with (refine ec 4 16 (w.heap.size+1) #[.int .i64 q.id,.int .i64 (q.next+1),.slice (some ⟨gs,0,none⟩) q.procs.length q.aW,.slice q.bc q.aj.length q.bF,.slice q.ay q.events.length q.aO,.slice q.ax q.ag.length q.aP,.slice q.am q.ae.length q.aG,.slice q.aK q.ai.length q.aV] H3.out.2.1 ?_)
 refine gZ Tryz.results98 (w.heap.size+1) #[.int .i64 q.id,.int .i64 (q.next+1),.slice (some ⟨gs,0,none⟩) q.procs.length q.aW,.slice q.bc q.aj.length q.bF,.slice q.ay q.events.length q.aO,.slice q.ax q.ag.length q.aP,.slice q.am q.ae.length q.aG,.slice q.aK q.ai.length q.aV] H3.out.2.1 ?_
 have hb:=HB.out.2.1
 refine ⟨_,?_,rfl,H3.out.2.2.1.same fun g hg=>setRow_other _ _ _ _ (by have:=H3.out.2.2.2.2.1 g hg; omega),below_setRow H3.out.2.2.2.1 (by omega) _,?_⟩
 ·simp only [List.length_set]
 ·exact H3.out.2.2.2.2.2.more (below_setRow (Below.refl _ _) (by omega) _)
end Go.Proofs.YtkbcplnlehdjfaaGreat
namespace Go.Proofs.YtkbcplnlehdjfaaGreat
theorem empty_eq {s:ByteArray} (h:bI s=true):s=rM:=by
 have h1:s.data.toList= [] :=by simpa [bI,ByteArray.toList_eq] using h
 cases s with
 | mk d=>
  have:d= #[] :=Array.toList_eq_nil_iff.1 h1
  rw [this]; rfl
def Up (id:Int) (p:aE):Prop:= ∀ y∈p.procs,y.id=id→y.state=1
def xr (id:Int) (p:aE):Prop:= ∀ y∈p.procs,y.id=id→y.state=1∧y.left=0
section
variable {p:aE} {id:Int}
theorem xr.up (h:xr id p):Up id p:=fun y hy hi=>(h y hy hi).1
theorem Up.not (h:Up id p): ∀ y∈p.procs,y.id=id→ ¬ y.state=0:=fun y hy hi=>by rw [h y hy hi]; decide
theorem Up.other {k nx:Int} {f:aD→aD} (h:Up id p) (hk: ¬ k=id) (hf: ∀ x,(f x).id=x.id):Up id { p with next:=nx,procs:=ce k f p.procs } :=fun y hy hi=>by
 obtain ⟨z,hz,rfl⟩:=List.mem_map.1 (show y∈ce k f p.procs from hy)
 split at hi
 ·rw [hf] at hi; omega
 ·rw [if_neg ‹_›]; exact h z hz hi
theorem xr.got {t:ByteArray} {k:Int} (h:xr id p):xr id (ez t k p):=fun y hy hi=>by
 obtain ⟨z,hz,rfl⟩:=List.mem_map.1 (show y∈ce k (lG t) p.procs from hy)
 split at hi
 ·rw [if_pos ‹_›]; exact h z hz hi
 ·rw [if_neg ‹_›]; exact h z hz hi
theorem Up.wake {f:aD→aD} {x:aD} (h:Up id p) (hx:x∈p.procs) (hs: ¬ x.state=1) (hf: ∀ y,(f y).id=y.id):Up id (gF f p x):=
 Up.other h (fun e=>hs (h x hx e)) fun y=>by rw [(rD _ _ _).1,hf]
theorem Up.gW {f:aD→aD} {st on:Int} (hst: ¬ st=1) (hf: ∀ y,(f y).id=y.id): ∀ (n:Nat) (p:aE),Up id p→Up id (gW f st on n p)
 | 0,_,h=>h
 | n+1,p,h=>by
  unfold Go.Proofs.YtkbcplnlehdjfaaGreat.gW
  split
  ·exact h
  ·rename_i x hx
   obtain ⟨m1,m2,-⟩:=ft hx
   exact Up.gW hst hf n _ (h.wake m1 (by omega) hf)
theorem Up.ff {f:aD→aD} {st on:Int} (h:Up id p) (hst: ¬ st=1) (hf: ∀ y,(f y).id=y.id):Up id (ff f st on p):=Up.gW hst hf _ _ h
theorem D6 {code:Int} (h:aQ p) (hu:Up id p) (hc:cv code 0 3=true):aQ (bu code id p):=zF h hu.not hc
theorem sO {st on wake:Int} {held:ByteArray} (h:aQ p) (hu:xr id p) (hn:p.next+1≤1000000000)
  (hs:st=2∧on=0∧bI held=true∧cv wake 1 2000000000=true∨(st=5∧bw held=true∨(st=3∨st=4∨st=6∨st=7)∧bI held=true)∧lh wake=true∧hasB p st on=true):aQ (kC st on held wake id p):=by
 have hnx:=bz.1 h.next
 refine h.ju (f:=zb p.next st on held wake) (fun _=>rfl) ⟨by omega,hn⟩ fun x hx hi=> ?_
 obtain ⟨hx1,hx2⟩:=hu x hx hi
 obtain ⟨-,k1,k2,k3⟩:=h.proc hx
 have hop:=iT k1 (by rw [hx1]; decide)
 have hb:=iF k1
 have hh:bw held=true:=by
  rcases hs with hs | ⟨hs | hs,-⟩
  ·rw [empty_eq hs.2.2.1]; rfl
  ·exact hs.2
  ·rw [empty_eq hs.2]; rfl
 have ho:dU (zb p.next st on held wake x)=true:=eB hop.1 (by show x.pc≤(x.prog.length:Int) - 1; omega)
 have hst:bO (zb p.next st on held wake x)=true:=by
  unfold bO
  rw [ho]
  show (if st=0 then _ else if st=1 then _ else if st=2 then true && decide (x.left=0) && cv wake 1 2000000000 && decide (on=0) && bI held else if st=5 then true && decide (x.left=0) && lh wake else if st=3∨st=4∨st=6∨st=7 then true && decide (x.left=0) && lh wake && bI held else false)=true
  rw [hx2]
  rcases hs with ⟨rfl,rfl,h3,h4⟩ | ⟨⟨rfl,h3⟩ | ⟨h3,h4⟩,h5,-⟩
  ·simp [h3,h4]
  ·simp [h5]
  ·rcases h3 with rfl | rfl | rfl | rfl <;> simp [h4,h5]
 refine ⟨?_,?_,?_,.inr (.inr rfl)⟩
 ·rw [fG,Bool.and_eq_true]
  refine ⟨?_,hst⟩
  unfold jY at hb ⊢
  simp only [Bool.and_eq_true] at hb ⊢
  exact ⟨⟨⟨hb.1.1.1,hh⟩,hb.1.2⟩,hb.2⟩
 ·unfold fF
  rw [Bool.or_eq_true]
  exact .inr (eB (by show 1≤p.next; omega) (by show p.next≤p.next+1 - 1; omega))
 ·unfold dG
  show (if 3≤st then hasB p st on else true)=true
  rcases hs with ⟨rfl,-⟩ | ⟨-,-,h5⟩
  ·rfl
  ·split
   ·exact h5
   ·rfl
theorem Ha {st now:Int} {o:dN} (h:aQ p) (hu:xr id p) (hn:p.next+1≤1000000000) (eu:0≤now∧now≤1000000000) (hm:cv o.2.2.1 (-1) 1000=true)
  (hs:st=5∧bw o.2.2.2=true∨(st=3∨st=4∨st=6∨st=7)∧bI o.2.2.2=true) (hh:hasB p st o.2.1=true):aQ (mX st o now id p):=by
 have hm':=bz.1 hm
 unfold mX
 split
 ·exact D6 h hu.up rfl
 ·refine sO h hu hn (.inr ⟨hs,?_,hh⟩)
  unfold lh kZ
  rw [Bool.or_eq_true]
  split
  ·exact .inl (eB (by omega) (by omega))
  ·exact .inr (by simp)
theorem IT {st now:Int} {o:dN} :p.next≤(mX st o now id p).next∧(mX st o now id p).next≤p.next+1:=by
 unfold mX
 split
 ·exact ⟨Int.le_refl _,by show p.next≤_; omega⟩
 ·exact ⟨by show p.next≤p.next+1; omega,Int.le_refl _⟩
theorem mx {k d:Int} (h:aQ p) (hd: ∀ s∈p.aj,s.id=k→0≤s.n+d∧s.n+d≤s.max):aQ (nZ k d p):=
 h.GD (by apply vN; intro _; rfl) (nj h.aj (fun _=>rfl) fun s hs hk=>by
  have h1:=(cK h.aj s hs).2
  unfold gw at h1 ⊢
  simp only [Bool.and_eq_true] at h1 ⊢
  exact ⟨h1.1,eB (hd s hs hk).1 (hd s hs hk).2⟩)
theorem kw {k:Int} {b:Bool} (h:aQ p):aQ (gL k b p):=h.Cz (by apply vN; intro _; rfl) (nj h.events (fun _=>rfl) fun _ _ _=>rfl)
theorem kA {k:Int} {b:Bool} {t:ByteArray} (h:aQ p) (ht:bw t=true) (hb:b=true∨bI t=true):aQ (ib k b t p):=
 h.C5 (by apply vN; intro _; rfl) (nj h.ag (fun _=>rfl) fun s hs hk=>by
  unfold cU
  simp only [Bool.and_eq_true,Bool.or_eq_true]
  exact ⟨ht,hb⟩)
theorem lv {l:List ByteArray} {m:Int} :dJ l m=true↔(l.length:Int)≤m∧ ∀ t∈l,bw t=true:=by
 unfold dJ
 simp [and_comm]
theorem gN {k:Int} {l:List ByteArray} (h:aQ p) (hl: ∀ b∈p.ae,b.id=k→(l.length:Int)≤b.max) (ht: ∀ t∈l,bw t=true):aQ (cV k l p):=
 h.Cb (by apply vN; intro _; rfl) (nj h.ae (fun _=>rfl) fun s hs hk=>by
  have h1:=(cK h.ae s hs).2
  unfold ct at h1 ⊢
  simp only [Bool.and_eq_true] at h1 ⊢
  exact ⟨h1.1,lv.2 ⟨hl s hs hk,ht⟩⟩)
theorem jj {k:Int} {l:List ByteArray} (h:aQ p) (hl: ∀ b∈p.ai,b.id=k→(l.length:Int)≤b.max) (ht: ∀ t∈l,bw t=true):aQ (gU k l p):=
 h.Es (by apply vN; intro _; rfl) (nj h.ai (fun _=>rfl) fun s hs hk=>by
  have h1:=(cK h.ai s hs).2
  unfold dj at h1 ⊢
  simp only [Bool.and_eq_true] at h1 ⊢
  exact ⟨h1.1,lv.2 ⟨hl s hs hk,ht⟩⟩)
theorem only {α:Type} {num:α→Int} {ok:α→Bool} {last k:Int} {l:List α} {x y:α} (h:aw num ok last l=true) (hx:cg num k l=some x) (hy:y∈l) (hk:num y=k):y=x:=by
 obtain ⟨h1,h2⟩:=ks hx
 have h5:=(db h).2
 rw [List.pairwise_iff_getElem] at h5
 obtain ⟨i,hi1,rfl⟩:=List.mem_iff_getElem.1 hy
 obtain ⟨j,DS,rfl⟩:=List.mem_iff_getElem.1 h1
 rcases Nat.lt_trichotomy i j with hlt | heq | hgt
 ·have:=h5 i j hi1 DS hlt; omega
 ·subst heq; rfl
 ·have:=h5 j i DS hi1 hgt; omega
theorem ul {α:Type} {num:α→Int} {k:Int} {l:List α} {x:α} (h:cg num k l=some x):decide (k∈l.map num)=true:=by
 obtain ⟨h1,h2⟩:=ks h
 exact decide_eq_true (List.mem_map.2 ⟨x,h1,h2⟩)
end
end Go.Proofs.YtkbcplnlehdjfaaGreat
namespace Go.Proofs.YtkbcplnlehdjfaaGreat
open Go Go.RowKit
theorem pn (a:Act) (v:Value):a.put none v=a:=rfl
def oc (cs:Array Value) (T:TypeId) (X:Nat) (W:World):Prop:=W.heap[X]? =some (.cells cs T (0,0))
section
variable {cs:Array Value} {T:TypeId} {X:Nat} {W W':World} {bs:List Nat}
theorem oc.lt (h:oc cs T X W):X < W.heap.size:=(Array.getElem?_eq_some_iff.1 h).1
theorem oc.below (h:oc cs T X W) (hb:Below W.heap.size W W'):oc cs T X W':=(hb.block _ h.lt).trans h
theorem oc.kept (h:oc cs T X W) (hk:aI W W' bs) (hs:X∉bs):oc cs T X W':=(hk.same _ h.lt hs).trans h
end
theorem ga {α : Type} {l : List α} {i : Nat} (h : i < l.toArray.size) : l.toArray[i]'h = l[i]'(by simpa using h) := by simp
theorem gs {α : Type} {a : α} {l : List α} {i : Nat} (h : i + 1 < (a :: l).length) : (a :: l)[i + 1]'h = l[i]'(Nat.lt_of_succ_lt_succ h) := rfl
section
variable {p q:af} {w W U V:World} {B X b:Nat} {cs:Array Value} {T:TypeId} {Y:Prop}
end
end Go.Proofs.YtkbcplnlehdjfaaGreat
