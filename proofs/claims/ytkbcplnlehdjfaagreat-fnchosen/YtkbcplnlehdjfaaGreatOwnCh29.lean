/- What the proof leans on, part 29: WithBoardS, WithEventS, TkR3. -/
import Derived.Test.YtkbcplnlehdjfaaGreatOwnCh20
import Derived.Test.YtkbcplnlehdjfaaGreatOwnCh26
import Derived.Test.YtkbcplnlehdjfaaGreatOwnCh27
set_option maxRecDepth 100000
set_option maxHeartbeats 8000000

namespace Go.Proofs.YtkbcplnlehdjfaaGreat
open Go.RowKit Go.Maps
attribute [local go_sem ↓] Go.wp_at_zero Go.wp_at_succ
theorem specWithBoard_any(p:PartD)(id:Int)(w:World)(b0:Nat)(hwf:(Lit.int .i64 id).wf=true)(hsm:p.pure.Small)(h:PartOwn w b0 p):
  Calls Tryz.prog 40 #[.agg p.cells,.int .i64 id] w fun e w'=>TurnRes w(withR p.pure { p.pure with boards:=insF(·.id)(⟨id,false,⟨#[]⟩⟩:BoardD)p.pure.boards })e w':=by
 have HB:Hid(PartBox((w.alloc(.cells p.row 32)).alloc(.cells zero8 32))w.heap.size p∧PartOwn((w.alloc(.cells p.row 32)).alloc(.cells zero8 32))b0 p∧Below w.heap.size w((w.alloc(.cells p.row 32)).alloc(.cells zero8 32))∧((w.alloc(.cells p.row 32)).alloc(.cells zero8 32)).heap[w.heap.size+1]? =some(.cells zero8 32(0,0))):=by
  have b1:Below w.heap.size w((w.alloc(.cells p.row 32)).alloc(.cells zero8 32)):=((Below.refl _ _).alloc(Nat.le_refl _)_).alloc(by simp)_
  exact⟨(heap_alloc_old _ _(by simp)).trans(heap_alloc_new _ _),h.below b1,b1,heap_alloc2_new _ _ _⟩
 have HFT:Hid(p.Fit∧(∀ x∈p.procs,x.Short)∧p.pure.Small∧(Lit.int .i64 id).wf=true):=⟨small_fit hsm,fun x hx=>(small_proc hsm hx).1,hsm,hwf⟩
 have hpl:=HFT.out.1.short.boards
 have hcap:p.boards.length≤p.boardC:=own_cap h.boards
 have hpb0: ∀ g∈p.blocks,g < w.heap.size:=fun g hg=>(h.lt g hg).2
 clear h hsm hwf
 obtain⟨m0,m1,m2,m3,m4,m5,m6,m7⟩:=HB.out.1.cells
 unfold PartD.cells
 go_enter Tryz.func40,Tryz.ntmps40
 go_wp2_with fail
 generalize (w.alloc(.cells p.row 32)).alloc(.cells zero8 32)=W at *
 clear m0 m1 m2 m3 m4 m5 m6 m7
 refine(l3Copy_any p W HFT.out.1 HFT.out.2.1 HB.out.2.1.at).mono ?_
 rintro e W1⟨q,rfl,hown,hpu,hb1⟩
 have hb2:Below W1.heap.size W1(W1.alloc(.cells q.row 32)):=(Below.refl _ _).alloc(Nat.le_refl _)_
 have hlt:w.heap.size+1 < W.heap.size:=(Array.getElem?_eq_some_iff.1 HB.out.2.2.2).1
 have hb3:Below W.heap.size W(W1.alloc(.cells q.row 32)):=hb1.trans(hb2.mono hb1.size)
 have hq1: ∀ g∈q.blocks,g < W1.heap.size:=fun g hg=>(hown.lt g hg).2
 have HQ:Hid(PartBox(W1.alloc(.cells q.row 32))W1.heap.size q∧PartOwn(W1.alloc(.cells q.row 32))W.heap.size q∧q.pure=p.pure∧(∀ g∈q.blocks,g < W1.heap.size)∧W.heap.size≤W1.heap.size∧w.heap.size+1 < W.heap.size∧W1.heap.size < (W1.alloc(.cells q.row 32)).heap.size):=⟨heap_alloc_new _ _,hown.below hb2,hpu,hq1,hb1.size,hlt,by simp⟩
 replace HB:Hid(PartBox(W1.alloc(.cells q.row 32))w.heap.size p∧PartOwn(W1.alloc(.cells q.row 32))b0 p∧Below w.heap.size w(W1.alloc(.cells q.row 32))∧(W1.alloc(.cells q.row 32)).heap[w.heap.size+1]? =some(.cells zero8 32(0,0))):=⟨HB.out.1.below hb3,HB.out.2.1.below hb3,HB.out.2.2.1.trans(hb3.mono HB.out.2.2.1.size),(hb3.block _ hlt).trans HB.out.2.2.2⟩
 have HPB:Hid(∀ g∈p.blocks,g < w.heap.size):=fun g hg=>hpb0 g hg
 clear hown hpu hb1 hb2 hb3 hq1 hlt hpb0
 obtain⟨m0,m1,m2,m3,m4,m5,m6,m7⟩:=HB.out.1.cells
 unfold PartD.cells
 go_wp2_with fail
 generalize W1.alloc(.cells q.row 32)=W2 at *
 clear m0 m1 m2 m3 m4 m6 m7
 generalize W1.heap.size=o at *
 go_loop [7] (fun i=> ∃ k:Nat,k≤p.boards.length∧i= .int .i64 k∧Hid(∀ y∈p.boards.take k,y.id < id))(fun i=>p.boards.length - (Go.RowKit.intOf i).toNat)
 case atStart=>exact⟨0,Nat.zero_le _,rfl,fun y hy=>by simp at hy⟩
 case round=>
  obtain⟨k,hk,rfl,HA⟩:=hrel
  have i0:(0:Int)≤(k:Int):=by omega
  have icap:(k:Int)≤(p.boardC:Int):=by omega
  have i2:(k:Int)≤(p.boards.length:Int):=by omega
  rcases at_ways(fun y:BoardD=>y.id)id p.boards k with ⟨x,hx,hc,hlt⟩ | ⟨x,hx,hc,hlt⟩ | hlt
  ·have HT:Hid(∀ y∈p.boards.take(k+1),y.id < id):=all_up hx HA.out hc
   have i1:(k:Int) < (p.boards.length:Int):=by omega
   obtain⟨g,ha,hat⟩:=board_at HB.out.2.1.at.2.2.2.1 hx
   have c0:=hat.1
   have m:=m5
   rw [ha] at m
   clear m5 hat hx
   go_wp2
   go_round
   case rel=>exact⟨k+1,by omega,by go_num,HT.out⟩
   case measure=>simp [Go.RowKit.intOf]; omega
  focus
   have HX:Hid(∀ y,p.boards[k]? =some y→ ¬ y.id < id):=fun y hy e=>by rw [hx] at hy; cases hy; exact hc e
   have i1:(k:Int) < (p.boards.length:Int):=by omega
   obtain⟨g,ha,hat⟩:=board_at HB.out.2.1.at.2.2.2.1 hx
   have c0:=hat.1
   have m:=m5
   rw [ha] at m
   clear m5 hat hx ha
  rotate_left
  focus
   have HX:Hid(∀ y,p.boards[k]? =some y→ ¬ y.id < id):=fun y hy=>absurd(List.getElem?_eq_some_iff.1 hy).1 hlt
   have i1: ¬ (k:Int) < (p.boards.length:Int):=by omega
   have m:=m5
   clear m5
  all_goals
   have hkl:(p.boards.take k).length=k:=by rw [List.length_take]; omega
   have hb3:Below W2.heap.size W2(W2.alloc(.cells #[] 141)):=(Below.refl _ _).alloc(Nat.le_refl _)_
   obtain⟨a5,c5,w5,hap,ho5,hg5,-⟩:=more_board(W2.alloc(.cells #[] 141))W2.heap.size(some⟨W2.heap.size,0,none⟩)0 [] (own_empty(heap_alloc_new _ _)(Nat.le_refl _))p.boardA(p.boards.take k)p.boardC(take_src k(HB.out.2.1.below hb3).at.2.2.2.1.1)(by rw [hkl]; show 0+k≤_; omega)hb3.size
   rw [hkl] at hap ho5
   simp only [List.length_nil,Nat.zero_add,List.nil_append] at hap ho5
   have hb5:Below W2.heap.size W2 w5:=hb3.grown hg5 hb3.size fun c e=>by cases e; exact Nat.le_refl _
   have hb6:Below w5.heap.size w5(w5.alloc(.cells #[.int .i64 id,.bool false,.string⟨#[]⟩] 141)):=(Below.refl _ _).alloc(Nat.le_refl _)_
   have hb6o:Below W2.heap.size W2(w5.alloc(.cells #[.int .i64 id,.bool false,.string⟨#[]⟩] 141)):=hb5.trans(hb6.mono hb5.size)
   have ho6:(w5.alloc(.cells #[.int .i64 id,.bool false,.string⟨#[]⟩] 141)).ownsRow W2.heap.size 141 3(.slice a5(p.boards.take k).length c5)(p.boards.take k).length(boardK.flat(p.boards.take k)):=by rw [hkl]; exact own_below ho5 hb6
   obtain⟨a7,c7,w7,hap2,ho7,hg7,-⟩:=more_board(w5.alloc(.cells #[.int .i64 id,.bool false,.string⟨#[]⟩] 141))W2.heap.size a5 c5(p.boards.take k)ho6(some⟨w5.heap.size,0,none⟩) [(⟨id,false,⟨#[]⟩⟩:BoardD)] 1(src_block(heap_alloc_new _ _))(by rw [hkl]; show k+1≤_; omega)hb6o.size
   have hl7:(p.boards.take k ++ [(⟨id,false,⟨#[]⟩⟩:BoardD)]).length=k+1:=by rw [List.length_append,hkl]; rfl
   rw [hkl] at hap2 ho7
   simp only [List.length_cons,List.length_nil,Nat.zero_add] at hap2 ho7
   have hb7:Below W2.heap.size W2 w7:=hb6o.grown hg7 hb6o.size fun c e=>(own_lt ho5(own_block e)).1
   have HO7:Hid(w7.ownsRow W2.heap.size 141 3(.slice a7(k+1)c7)(k+1)(boardK.flat(p.boards.take k ++ [(⟨id,false,⟨#[]⟩⟩:BoardD)]))∧Below W2.heap.size W2 w7∧(p.boards.take k ++ [(⟨id,false,⟨#[]⟩⟩:BoardD)]).length=k+1):=⟨ho7,hb7,hl7⟩
   have m2:(W2.alloc(.cells #[] 141)).cell? ⟨w.heap.size,5,none⟩=some(.slice p.boardA p.boards.length p.boardC):=(HB.out.1.below hb3).cells.2.2.2.2.2.1
   have hbo:W2.heap.size≤w7.heap.size:=hb7.size
   obtain⟨⟨u,co⟩,fo⟩:(∃ u,w7.cell? ⟨o,5,none⟩=some u)∧w7.frozen? ⟨o,5,none⟩=false:=⟨⟨_,(HQ.out.1.below hb7).cells.2.2.2.2.2.1⟩,frozen_of_row _ _ _ _ _(HQ.out.1.below hb7)⟩
   clear ho5 hg5 hb5 hb6 hb6o ho6 ho7 hg7 hb7 hb3 hl7
   go_wp2_with (at_builtin; first | (refine wpList_append_run _ rfl _ _ 28 rfl _ _ _ _ rfl rfl hap ?_; clear hap) | (refine wpList_append_run _ rfl _ _ 28 rfl _ _ _ _ rfl rfl hap2 ?_; clear hap2))
   have H8:Hid(((PartBox(w7.setCell⟨o,5,none⟩(.slice a7(k+1)c7))w.heap.size p∧PartOwn(w7.setCell⟨o,5,none⟩(.slice a7(k+1)c7))b0 p∧Below w.heap.size w(w7.setCell⟨o,5,none⟩(.slice a7(k+1)c7))∧(w7.setCell⟨o,5,none⟩(.slice a7(k+1)c7)).heap[w.heap.size+1]? =some(.cells zero8 32(0,0)))∧(w7.setCell⟨o,5,none⟩(.slice a7(k+1)c7)).heap[o]? =some(.cells #[.int .i64 q.id,.int .i64 q.next,.slice q.procA q.procs.length q.procC,.slice q.semA q.sems.length q.semC,.slice q.eventA q.events.length q.eventC,.slice a7(k+1)c7,.slice q.bufferA q.buffers.length q.bufferC,.slice q.portA q.ports.length q.portC] 32(0,0))∧PartOwn(w7.setCell⟨o,5,none⟩(.slice a7(k+1)c7))W.heap.size q)∧(w7.setCell⟨o,5,none⟩(.slice a7(k+1)c7)).ownsRow W2.heap.size 141 3(.slice a7(k+1)c7)(k+1)(boardK.flat(p.boards.take k ++ [(⟨id,false,⟨#[]⟩⟩:BoardD)]))∧W2.heap.size≤(w7.setCell⟨o,5,none⟩(.slice a7(k+1)c7)).heap.size):=by
    have hb7:=HO7.out.2.1
    have hq:=HQ.out
    have hbw:Below w.heap.size w w7:=HB.out.2.2.1.trans(hb7.mono(by have:=HB.out.2.2.1.size; omega))
    refine⟨⟨⟨(setCell_other(by omega)).trans(HB.out.1.below hb7),(HB.out.2.1.below hb7).same fun g hg=>setCell_other(fun e=> ?_),below_setCell hbw(by omega),(setCell_other(by omega)).trans((hb7.block _(by omega)).trans HB.out.2.2.2)⟩,setCell_block(HQ.out.1.below hb7),(HQ.out.2.1.below hb7).same fun g hg=>setCell_other(by have:=HQ.out.2.2.2.1 g hg; omega)⟩,own_same HO7.out.1 fun g hg=>setCell_other(by have:=(own_lt HO7.out.1 hg).1; omega),?_⟩
    ·have:=HPB.out g hg; omega
    ·rw [setCell_size]; exact hb7.size
   generalize w7.setCell⟨o,5,none⟩(.slice a7(k+1)c7)=W8 at *
   have HS:Hid(W8.cell? ⟨w.heap.size,5,none⟩=some(.slice p.boardA p.boards.length p.boardC)):=H8.out.1.1.1.cells.2.2.2.2.2.1
   have co8:W8.drew.cell? ⟨o,5,none⟩=some(.slice a7(k+1)c7):=by rw [cell_of_row _ _ _ _ _ _(show W8.drew.heap[o]? =_ from H8.out.1.2.1)]; rfl
   clear m m2 co fo hbo i1 hlt
   obtain⟨aS,haS⟩: ∃ aS,(if p.boardC=k then p.boardA else Option.map(fun x=>x.add(k * 3))p.boardA)=aS:=⟨_,rfl⟩
   refine wp_region_held_drew(S:=fun w'=>w'.cell? ⟨w.heap.size,5,none⟩=some(.slice p.boardA p.boards.length p.boardC))(by kernel_rfl)HS.out(fun hHeld=> ?_)
   refine tk 0(v:= ?_) ?_ hHeld ?_; rotate_left; (intro w0 hS0; have hS1:=hS0; go_simp; try with_reducible rfl); simp only [pt,sb,s0,s1]
   refine tk 2(v:= ?_) ?_ hHeld ?_; rotate_left; (intro w0 hS0; have hS1:=hS0; go_simp; try with_reducible rfl); simp only [pt,sb,s0,s1]
   refine tk 3(v:= ?_) ?_ hHeld ?_; rotate_left; (intro w0 hS0; have hS1:=hS0; go_simp; try with_reducible rfl); simp only [pt,sb,s0,s1]
   refine tk 4(v:= ?_) ?_ hHeld ?_; rotate_left; (intro w0 hS0; have hS1:=hS0; go_simp; try with_reducible rfl); simp only [pt,sb,s0,s1]
   refine tk 5(v:= ?_) ?_ hHeld ?_; rotate_left; (intro w0 hS0; have hS1:=hS0; go_simp; try with_reducible rfl); simp only [pt,sb,s0,s1]
   refine wpAnyH_ready(rs:= [1])(by kernel_rfl)(by simp) ?_
   refine AllReadyH.cons rfl(fun K hK=> ?_)AllReadyH.nil
   simp only [List.getElem_toArray,List.getElem_cons_zero,List.getElem_cons_succ]
   rw [if_pos(by rfl)]
   go_wp2_with fail
   refine hK.out _ _ HS.out(fun hHeld=> ?_)
   clear hK K
   try simp only [pt,sb,s0,s1]
   have hbd:Below W8.heap.size W8 W8.drew:=(Below.refl _ _).drew
   have hl7:=HO7.out.2.2
   have hkd:(p.boards.drop k).length=p.boards.length - k:=List.length_drop
   obtain⟨a9,c9,w9,hr,ho9,hg9,-⟩:=more_board W8.drew W2.heap.size a7 c7(p.boards.take k ++ [(⟨id,false,⟨#[]⟩⟩:BoardD)])(by rw [hl7]; exact own_below H8.out.2.1 hbd)aS(p.boards.drop k)(p.boardC - k)(by rw [← haS]; exact tail_src hcap(H8.out.1.1.2.1.below hbd).at.2.2.2.1.1)(by rw [hl7,hkd]; omega)H8.out.2.2
   rw [hl7,hkd] at hr ho9
   have hb9:Below W2.heap.size W8.drew w9:=(Below.refl _ _).grown(a:=W8.drew)hg9 H8.out.2.2 fun c e=>(own_lt H8.out.2.1(own_block e)).1
   have hq:=HQ.out
   have h8:=H8.out
   have hol:o < W2.heap.size:=hq.2.2.2.2.2.2
   have hwl:w.heap.size+1 < o:=by omega
   have ho10:w9.heap[o]? =some(.cells #[.int .i64 q.id,.int .i64 q.next,.slice q.procA q.procs.length q.procC,.slice q.semA q.sems.length q.semC,.slice q.eventA q.events.length q.eventC,.slice a7(k+1)c7,.slice q.bufferA q.buffers.length q.bufferC,.slice q.portA q.ports.length q.portC] 32(0,0)):=(hb9.block _ hol).trans h8.1.2.1
   have H9:Hid(w9.cell? ⟨w.heap.size,5,none⟩=some(.slice p.boardA p.boards.length p.boardC)∧(w9.setCell⟨o,5,none⟩(.slice a9(k+1+(p.boards.length - k))c9)).cell? ⟨w.heap.size,5,none⟩=some(.slice p.boardA p.boards.length p.boardC)):=by
    have e1:w9.cell? ⟨w.heap.size,5,none⟩=some(.slice p.boardA p.boards.length p.boardC):=(World.cell?_of_block(hb9.block _(by show w.heap.size < _; omega))).trans HS.out
    exact⟨e1,(World.cell?_of_block(setCell_other(by show w.heap.size≠o; omega))).trans e1⟩
   have hln:((p.boards.take k ++ [(⟨id,false,⟨#[]⟩⟩:BoardD)]) ++ p.boards.drop k).length=k+1+(p.boards.length - k):=by rw [List.length_append,hl7,hkd]
   have hpu:({ q with boards:=(p.boards.take k ++ [(⟨id,false,⟨#[]⟩⟩:BoardD)]) ++ p.boards.drop k,boardA:=a9,boardC:=c9 } :PartD).pure= { p.pure with boards:=insF(·.id)(⟨id,false,⟨#[]⟩⟩:BoardD)p.pure.boards } :=by
    have e1:(p.boards.take k ++ [(⟨id,false,⟨#[]⟩⟩:BoardD)]) ++ p.boards.drop k=insF(·.id)(⟨id,false,⟨#[]⟩⟩:BoardD)p.pure.boards:=by
     rw [List.append_assoc]
     exact insF_at HA.out(fun y hy=>by have h5:=HX.out y hy; show ¬ y.id < id; omega)
    have e2:=HQ.out.2.2.1
    show ({ q.pure with boards:=(p.boards.take k ++ [(⟨id,false,⟨#[]⟩⟩:BoardD)]) ++ p.boards.drop k } :PartP)=_
    rw [e1,e2]
   have H10:Hid(PartBox(w9.setCell⟨o,5,none⟩(.slice a9(k+1+(p.boards.length - k))c9))w.heap.size p∧PartOwn(w9.setCell⟨o,5,none⟩(.slice a9(k+1+(p.boards.length - k))c9))b0 p∧Below w.heap.size w(w9.setCell⟨o,5,none⟩(.slice a9(k+1+(p.boards.length - k))c9))∧(w9.setCell⟨o,5,none⟩(.slice a9(k+1+(p.boards.length - k))c9)).heap[w.heap.size+1]? =some(.cells zero8 32(0,0))∧PartBox(w9.setCell⟨o,5,none⟩(.slice a9(k+1+(p.boards.length - k))c9))o({ q with boards:=(p.boards.take k ++ [(⟨id,false,⟨#[]⟩⟩:BoardD)]) ++ p.boards.drop k,boardA:=a9,boardC:=c9 } :PartD)∧PartOwn(w9.setCell⟨o,5,none⟩(.slice a9(k+1+(p.boards.length - k))c9))W.heap.size({ q with boards:=(p.boards.take k ++ [(⟨id,false,⟨#[]⟩⟩:BoardD)]) ++ p.boards.drop k,boardA:=a9,boardC:=c9 } :PartD)∧({ q with boards:=(p.boards.take k ++ [(⟨id,false,⟨#[]⟩⟩:BoardD)]) ++ p.boards.drop k,boardA:=a9,boardC:=c9 } :PartD).pure= { p.pure with boards:=insF(·.id)(⟨id,false,⟨#[]⟩⟩:BoardD)p.pure.boards }):=by
    have hpb: ∀ g∈p.blocks,g < w.heap.size:=HPB.out
    have hqb: ∀ g∈q.blocks,g < o:=hq.2.2.2.1
    have sm: ∀ g,g < W2.heap.size→g≠o→(w9.setCell⟨o,5,none⟩(.slice a9(k+1+(p.boards.length - k))c9)).heap[g]? =W8.heap[g]? :=fun g hg hne=>(setCell_other hne).trans(hb9.block _ hg)
    have hbw:Below w.heap.size w(w9.setCell⟨o,5,none⟩(.slice a9(k+1+(p.boards.length - k))c9)):=below_setCell(h8.1.1.2.2.1.drew.trans(hb9.mono(by omega)))(by omega)
    refine⟨(sm _(by omega)(by omega)).trans h8.1.1.1,h8.1.1.2.1.same fun g hg=>sm g(by have:=hpb g hg; omega)(by have:=hpb g hg; omega),hbw,(sm _(by omega)(by omega)).trans h8.1.1.2.2.2,?_,?_,hpu⟩
    ·have h5:=setCell_block(i:=5)(v:= .slice a9(k+1+(p.boards.length - k))c9)ho10
     unfold PartBox
     simp only [hln]
     exact h5
    ·refine h8.1.2.2.newBoard(B:=W2.heap.size)(by omega)(fun g hg=>by have:=hqb g hg; omega)(fun g hg=>sm g(by have:=hqb g hg; omega)(by have:=hqb g hg; omega)) ?_
     rw [hln]
     exact own_same ho9 fun g hg=>setCell_other(by have:=(own_lt ho9 hg).1; omega)
   refine wpAnyH_ready(rs:= [6])(by kernel_rfl)(by simp) ?_
   refine AllReadyH.cons rfl(fun K hK=> ?_)AllReadyH.nil
   simp only [List.getElem_toArray,List.getElem_cons_zero,List.getElem_cons_succ]
   rw [if_pos(by rfl)]
   refine oper_append _ _ _ rfl _ _ _ w9 rfl rfl hr ?_
   refine hK.out _ _ H9.out.1(fun hHeld=> ?_)
   clear hK K
   try simp only [pt,sb,s0,s1]
   obtain⟨⟨u,co⟩,fo⟩:(∃ u,w9.cell? ⟨o,5,none⟩=some u)∧w9.frozen? ⟨o,5,none⟩=false:=⟨⟨_,by rw [cell_of_row _ _ _ _ _ _ ho10]; rfl⟩,frozen_of_row _ _ _ _ _ ho10⟩
   clear hr ho9 hg9 hb9 hq h8 hol hwl ho10 hbd
   refine tk 7(v:= ?_) ?_ hHeld ?_; rotate_left; (intro w0 hS0; have hS1:=hS0; go_simp; try with_reducible rfl); simp only [pt,sb,s0,s1]
   refine wpAnyH_ready(rs:= [8])(by kernel_rfl)(by simp) ?_
   refine AllReadyH.cons rfl(fun K hK=> ?_)AllReadyH.nil
   simp only [List.getElem_toArray,List.getElem_cons_zero,List.getElem_cons_succ]
   rw [if_pos(by rfl)]
   go_wp2_with fail
   refine hK.out _ _ H9.out.2(fun hHeld=> ?_)
   clear hK K
   try simp only [pt,sb,s0,s1]
   refine wpAnyH_done(by kernel_rfl) ?_ _
   clear hHeld co fo H9 HS co8
   generalize w9.setCell⟨o,5,none⟩(.slice a9(k+1+(p.boards.length - k))c9)=W10 at *
   have hcall:=l3Checked_any p({ q with boards:=(p.boards.take k ++ [(⟨id,false,⟨#[]⟩⟩:BoardD)]) ++ p.boards.drop k,boardA:=a9,boardC:=c9 } :PartD)W10⟨HFT.out.1,HFT.out.2.1,H10.out.2.1.at⟩(fun hr=>by
    have h5:PartP.Small({ q with boards:=(p.boards.take k ++ [(⟨id,false,⟨#[]⟩⟩:BoardD)]) ++ p.boards.drop k,boardA:=a9,boardC:=c9 } :PartD).pure:=by rw [H10.out.2.2.2.2.2.2]; exact insBoard_small HFT.out.2.2.1 hr⟨HFT.out.2.2.2,Nat.zero_le _⟩
    exact⟨small_fit h5,fun x hx=>(small_proc h5 hx).1,H10.out.2.2.2.2.2.1.at⟩)
   obtain⟨m0,m1,m2,m3,m4,m5,m6,m7⟩:=H10.out.1.cells
   obtain⟨k0,k1,k2,k3,k4,k5,k6,k7⟩:=H10.out.2.2.2.2.1.cells
   unfold PartD.cells at hcall
   simp only [hln] at hcall k0 k1 k2 k3 k4 k5 k6 k7
   have HLN:Hid(((p.boards.take k ++ [(⟨id,false,⟨#[]⟩⟩:BoardD)]) ++ p.boards.drop k).length=k+1+(p.boards.length - k)):=hln
   clear hln hl7 hkd haS hpu
   go_wp2_with fail
   refine hcall.mono ?_
   clear hcall m0 m1 m2 m3 m4 m5 m6 m7 k0 k1 k2 k3 k4 k5 k6 k7
   rintro e w11⟨hb11,hok⟩
   have hq:=HQ.out.2.2.2.2
   have HZ:Hid(Below w.heap.size w w11∧w11.heap[w.heap.size+1]? =some(.cells zero8 32(0,0))∧PartOwn w11 W.heap.size({ q with boards:=(p.boards.take k ++ [(⟨id,false,⟨#[]⟩⟩:BoardD)]) ++ p.boards.drop k,boardA:=a9,boardC:=c9 } :PartD)∧w.heap.size+1 < W.heap.size):=⟨H10.out.2.2.1.trans(hb11.mono H10.out.2.2.1.size),(hb11.block _(Array.getElem?_eq_some_iff.1 H10.out.2.2.2.1).1).trans H10.out.2.2.2.1,H10.out.2.2.2.2.2.1.below hb11,hq.2.1⟩
   clear hb11 hq
   rw [H10.out.2.2.2.2.2.2] at hok
   rcases hok with ⟨hok,rfl⟩ | ⟨hok,rfl⟩
   ·have HN:Hid(withR p.pure { p.pure with boards:=insF(·.id)(⟨id,false,⟨#[]⟩⟩:BoardD)p.pure.boards } =some { p.pure with boards:=insF(·.id)(⟨id,false,⟨#[]⟩⟩:BoardD)p.pure.boards }):=withR_ok hok
    clear hok
    go_wp2_with (refine stP 4 49(w.heap.size+1) #[.int .i64 q.id,.int .i64 q.next,.slice q.procA q.procs.length q.procC,.slice q.semA q.sems.length q.semC,.slice q.eventA q.events.length q.eventC,.slice a9(k+1+(p.boards.length - k))c9,.slice q.bufferA q.buffers.length q.bufferC,.slice q.portA q.ports.length q.portC] HZ.out.2.1 ?_)
    refine rtQ Tryz.results40(w.heap.size+1) #[.int .i64 q.id,.int .i64 q.next,.slice q.procA q.procs.length q.procC,.slice q.semA q.sems.length q.semC,.slice q.eventA q.events.length q.eventC,.slice a9(k+1+(p.boards.length - k))c9,.slice q.bufferA q.buffers.length q.bufferC,.slice q.portA q.ports.length q.portC] (.bool true)HZ.out.2.1 ?_
    have hl:=HZ.out.2.2.2
    rw [HN.out]
    refine⟨({ q with boards:=(p.boards.take k ++ [(⟨id,false,⟨#[]⟩⟩:BoardD)]) ++ p.boards.drop k,boardA:=a9,boardC:=c9 } :PartD),by unfold PartD.cells; simp only [HLN.out]; rfl,(HZ.out.2.2.1.lower(by omega)).same fun g hg=>setRow_other _ _ _ _(by have:=(HZ.out.2.2.1.lt g hg).1; omega),H10.out.2.2.2.2.2.2,below_setRow HZ.out.1(by omega)_⟩
   ·have HN:Hid(withR p.pure { p.pure with boards:=insF(·.id)(⟨id,false,⟨#[]⟩⟩:BoardD)p.pure.boards } =none):=withR_bad hok
    clear hok
    go_wp2_with (refine stP 4 49(w.heap.size+1)zero8 HZ.out.2.1 ?_)
    refine rtQ Tryz.results40(w.heap.size+1)zero8(.bool false)HZ.out.2.1 ?_
    exact turnRes_no HN.out(below_setRow HZ.out.1(by omega)_)
end Go.Proofs.YtkbcplnlehdjfaaGreat

namespace Go.Proofs.YtkbcplnlehdjfaaGreat
open Go.RowKit Go.Maps
attribute [local go_sem ↓] Go.wp_at_zero Go.wp_at_succ
theorem specWithEvent_any(p:PartD)(id:Int)(w:World)(b0:Nat)(hwf:(Lit.int .i64 id).wf=true)(hsm:p.pure.Small)(h:PartOwn w b0 p):
  Calls Tryz.prog 38 #[.agg p.cells,.int .i64 id] w fun e w'=>TurnRes w(withR p.pure { p.pure with events:=insF(·.id)(⟨id,false⟩:EventD)p.pure.events })e w':=by
 have HB:Hid(PartBox((w.alloc(.cells p.row 32)).alloc(.cells zero8 32))w.heap.size p∧PartOwn((w.alloc(.cells p.row 32)).alloc(.cells zero8 32))b0 p∧Below w.heap.size w((w.alloc(.cells p.row 32)).alloc(.cells zero8 32))∧((w.alloc(.cells p.row 32)).alloc(.cells zero8 32)).heap[w.heap.size+1]? =some(.cells zero8 32(0,0))):=by
  have b1:Below w.heap.size w((w.alloc(.cells p.row 32)).alloc(.cells zero8 32)):=((Below.refl _ _).alloc(Nat.le_refl _)_).alloc(by simp)_
  exact⟨(heap_alloc_old _ _(by simp)).trans(heap_alloc_new _ _),h.below b1,b1,heap_alloc2_new _ _ _⟩
 have HFT:Hid(p.Fit∧(∀ x∈p.procs,x.Short)∧p.pure.Small∧(Lit.int .i64 id).wf=true):=⟨small_fit hsm,fun x hx=>(small_proc hsm hx).1,hsm,hwf⟩
 have hpl:=HFT.out.1.short.events
 have hcap:p.events.length≤p.eventC:=own_cap h.events
 have hpb0: ∀ g∈p.blocks,g < w.heap.size:=fun g hg=>(h.lt g hg).2
 clear h hsm hwf
 obtain⟨m0,m1,m2,m3,m4,m5,m6,m7⟩:=HB.out.1.cells
 unfold PartD.cells
 go_enter Tryz.func38,Tryz.ntmps38
 go_wp2_with fail
 generalize (w.alloc(.cells p.row 32)).alloc(.cells zero8 32)=W at *
 clear m0 m1 m2 m3 m4 m5 m6 m7
 refine(l3Copy_any p W HFT.out.1 HFT.out.2.1 HB.out.2.1.at).mono ?_
 rintro e W1⟨q,rfl,hown,hpu,hb1⟩
 have hb2:Below W1.heap.size W1(W1.alloc(.cells q.row 32)):=(Below.refl _ _).alloc(Nat.le_refl _)_
 have hlt:w.heap.size+1 < W.heap.size:=(Array.getElem?_eq_some_iff.1 HB.out.2.2.2).1
 have hb3:Below W.heap.size W(W1.alloc(.cells q.row 32)):=hb1.trans(hb2.mono hb1.size)
 have hq1: ∀ g∈q.blocks,g < W1.heap.size:=fun g hg=>(hown.lt g hg).2
 have HQ:Hid(PartBox(W1.alloc(.cells q.row 32))W1.heap.size q∧PartOwn(W1.alloc(.cells q.row 32))W.heap.size q∧q.pure=p.pure∧(∀ g∈q.blocks,g < W1.heap.size)∧W.heap.size≤W1.heap.size∧w.heap.size+1 < W.heap.size∧W1.heap.size < (W1.alloc(.cells q.row 32)).heap.size):=⟨heap_alloc_new _ _,hown.below hb2,hpu,hq1,hb1.size,hlt,by simp⟩
 replace HB:Hid(PartBox(W1.alloc(.cells q.row 32))w.heap.size p∧PartOwn(W1.alloc(.cells q.row 32))b0 p∧Below w.heap.size w(W1.alloc(.cells q.row 32))∧(W1.alloc(.cells q.row 32)).heap[w.heap.size+1]? =some(.cells zero8 32(0,0))):=⟨HB.out.1.below hb3,HB.out.2.1.below hb3,HB.out.2.2.1.trans(hb3.mono HB.out.2.2.1.size),(hb3.block _ hlt).trans HB.out.2.2.2⟩
 have HPB:Hid(∀ g∈p.blocks,g < w.heap.size):=fun g hg=>hpb0 g hg
 clear hown hpu hb1 hb2 hb3 hq1 hlt hpb0
 obtain⟨m0,m1,m2,m3,m4,m5,m6,m7⟩:=HB.out.1.cells
 unfold PartD.cells
 go_wp2_with fail
 generalize W1.alloc(.cells q.row 32)=W2 at *
 clear m0 m1 m2 m3 m5 m6 m7
 generalize W1.heap.size=o at *
 go_loop [7] (fun i=> ∃ k:Nat,k≤p.events.length∧i= .int .i64 k∧Hid(∀ y∈p.events.take k,y.id < id))(fun i=>p.events.length - (Go.RowKit.intOf i).toNat)
 case atStart=>exact⟨0,Nat.zero_le _,rfl,fun y hy=>by simp at hy⟩
 case round=>
  obtain⟨k,hk,rfl,HA⟩:=hrel
  have i0:(0:Int)≤(k:Int):=by omega
  have icap:(k:Int)≤(p.eventC:Int):=by omega
  have i2:(k:Int)≤(p.events.length:Int):=by omega
  rcases at_ways(fun y:EventD=>y.id)id p.events k with ⟨x,hx,hc,hlt⟩ | ⟨x,hx,hc,hlt⟩ | hlt
  ·have HT:Hid(∀ y∈p.events.take(k+1),y.id < id):=all_up hx HA.out hc
   have i1:(k:Int) < (p.events.length:Int):=by omega
   obtain⟨g,ha,hat⟩:=event_at HB.out.2.1.at.2.2.1 hx
   have c0:=hat.1
   have m:=m4
   rw [ha] at m
   clear m4 hat hx
   go_wp2
   go_round
   case rel=>exact⟨k+1,by omega,by go_num,HT.out⟩
   case measure=>simp [Go.RowKit.intOf]; omega
  focus
   have HX:Hid(∀ y,p.events[k]? =some y→ ¬ y.id < id):=fun y hy e=>by rw [hx] at hy; cases hy; exact hc e
   have i1:(k:Int) < (p.events.length:Int):=by omega
   obtain⟨g,ha,hat⟩:=event_at HB.out.2.1.at.2.2.1 hx
   have c0:=hat.1
   have m:=m4
   rw [ha] at m
   clear m4 hat hx ha
  rotate_left
  focus
   have HX:Hid(∀ y,p.events[k]? =some y→ ¬ y.id < id):=fun y hy=>absurd(List.getElem?_eq_some_iff.1 hy).1 hlt
   have i1: ¬ (k:Int) < (p.events.length:Int):=by omega
   have m:=m4
   clear m4
  all_goals
   have hkl:(p.events.take k).length=k:=by rw [List.length_take]; omega
   have hb3:Below W2.heap.size W2(W2.alloc(.cells #[] 138)):=(Below.refl _ _).alloc(Nat.le_refl _)_
   obtain⟨a5,c5,w5,hap,ho5,hg5,-⟩:=more_event(W2.alloc(.cells #[] 138))W2.heap.size(some⟨W2.heap.size,0,none⟩)0 [] (own_empty(heap_alloc_new _ _)(Nat.le_refl _))p.eventA(p.events.take k)p.eventC(take_src k(HB.out.2.1.below hb3).at.2.2.1.1)(by rw [hkl]; show 0+k≤_; omega)hb3.size
   rw [hkl] at hap ho5
   simp only [List.length_nil,Nat.zero_add,List.nil_append] at hap ho5
   have hb5:Below W2.heap.size W2 w5:=hb3.grown hg5 hb3.size fun c e=>by cases e; exact Nat.le_refl _
   have hb6:Below w5.heap.size w5(w5.alloc(.cells #[.int .i64 id,.bool false] 138)):=(Below.refl _ _).alloc(Nat.le_refl _)_
   have hb6o:Below W2.heap.size W2(w5.alloc(.cells #[.int .i64 id,.bool false] 138)):=hb5.trans(hb6.mono hb5.size)
   have ho6:(w5.alloc(.cells #[.int .i64 id,.bool false] 138)).ownsRow W2.heap.size 138 2(.slice a5(p.events.take k).length c5)(p.events.take k).length(eventK.flat(p.events.take k)):=by rw [hkl]; exact own_below ho5 hb6
   obtain⟨a7,c7,w7,hap2,ho7,hg7,-⟩:=more_event(w5.alloc(.cells #[.int .i64 id,.bool false] 138))W2.heap.size a5 c5(p.events.take k)ho6(some⟨w5.heap.size,0,none⟩) [(⟨id,false⟩:EventD)] 1(src_block(heap_alloc_new _ _))(by rw [hkl]; show k+1≤_; omega)hb6o.size
   have hl7:(p.events.take k ++ [(⟨id,false⟩:EventD)]).length=k+1:=by rw [List.length_append,hkl]; rfl
   rw [hkl] at hap2 ho7
   simp only [List.length_cons,List.length_nil,Nat.zero_add] at hap2 ho7
   have hb7:Below W2.heap.size W2 w7:=hb6o.grown hg7 hb6o.size fun c e=>(own_lt ho5(own_block e)).1
   have HO7:Hid(w7.ownsRow W2.heap.size 138 2(.slice a7(k+1)c7)(k+1)(eventK.flat(p.events.take k ++ [(⟨id,false⟩:EventD)]))∧Below W2.heap.size W2 w7∧(p.events.take k ++ [(⟨id,false⟩:EventD)]).length=k+1):=⟨ho7,hb7,hl7⟩
   have m2:(W2.alloc(.cells #[] 138)).cell? ⟨w.heap.size,4,none⟩=some(.slice p.eventA p.events.length p.eventC):=(HB.out.1.below hb3).cells.2.2.2.2.1
   have hbo:W2.heap.size≤w7.heap.size:=hb7.size
   obtain⟨⟨u,co⟩,fo⟩:(∃ u,w7.cell? ⟨o,4,none⟩=some u)∧w7.frozen? ⟨o,4,none⟩=false:=⟨⟨_,(HQ.out.1.below hb7).cells.2.2.2.2.1⟩,frozen_of_row _ _ _ _ _(HQ.out.1.below hb7)⟩
   clear ho5 hg5 hb5 hb6 hb6o ho6 ho7 hg7 hb7 hb3 hl7
   go_wp2_with (at_builtin; first | (refine wpList_append_run _ rfl _ _ 27 rfl _ _ _ _ rfl rfl hap ?_; clear hap) | (refine wpList_append_run _ rfl _ _ 27 rfl _ _ _ _ rfl rfl hap2 ?_; clear hap2))
   have H8:Hid(((PartBox(w7.setCell⟨o,4,none⟩(.slice a7(k+1)c7))w.heap.size p∧PartOwn(w7.setCell⟨o,4,none⟩(.slice a7(k+1)c7))b0 p∧Below w.heap.size w(w7.setCell⟨o,4,none⟩(.slice a7(k+1)c7))∧(w7.setCell⟨o,4,none⟩(.slice a7(k+1)c7)).heap[w.heap.size+1]? =some(.cells zero8 32(0,0)))∧(w7.setCell⟨o,4,none⟩(.slice a7(k+1)c7)).heap[o]? =some(.cells #[.int .i64 q.id,.int .i64 q.next,.slice q.procA q.procs.length q.procC,.slice q.semA q.sems.length q.semC,.slice a7(k+1)c7,.slice q.boardA q.boards.length q.boardC,.slice q.bufferA q.buffers.length q.bufferC,.slice q.portA q.ports.length q.portC] 32(0,0))∧PartOwn(w7.setCell⟨o,4,none⟩(.slice a7(k+1)c7))W.heap.size q)∧(w7.setCell⟨o,4,none⟩(.slice a7(k+1)c7)).ownsRow W2.heap.size 138 2(.slice a7(k+1)c7)(k+1)(eventK.flat(p.events.take k ++ [(⟨id,false⟩:EventD)]))∧W2.heap.size≤(w7.setCell⟨o,4,none⟩(.slice a7(k+1)c7)).heap.size):=by
    have hb7:=HO7.out.2.1
    have hq:=HQ.out
    have hbw:Below w.heap.size w w7:=HB.out.2.2.1.trans(hb7.mono(by have:=HB.out.2.2.1.size; omega))
    refine⟨⟨⟨(setCell_other(by omega)).trans(HB.out.1.below hb7),(HB.out.2.1.below hb7).same fun g hg=>setCell_other(fun e=> ?_),below_setCell hbw(by omega),(setCell_other(by omega)).trans((hb7.block _(by omega)).trans HB.out.2.2.2)⟩,setCell_block(HQ.out.1.below hb7),(HQ.out.2.1.below hb7).same fun g hg=>setCell_other(by have:=HQ.out.2.2.2.1 g hg; omega)⟩,own_same HO7.out.1 fun g hg=>setCell_other(by have:=(own_lt HO7.out.1 hg).1; omega),?_⟩
    ·have:=HPB.out g hg; omega
    ·rw [setCell_size]; exact hb7.size
   generalize w7.setCell⟨o,4,none⟩(.slice a7(k+1)c7)=W8 at *
   have HS:Hid(W8.cell? ⟨w.heap.size,4,none⟩=some(.slice p.eventA p.events.length p.eventC)):=H8.out.1.1.1.cells.2.2.2.2.1
   have co8:W8.drew.cell? ⟨o,4,none⟩=some(.slice a7(k+1)c7):=by rw [cell_of_row _ _ _ _ _ _(show W8.drew.heap[o]? =_ from H8.out.1.2.1)]; rfl
   clear m m2 co fo hbo i1 hlt
   obtain⟨aS,haS⟩: ∃ aS,(if p.eventC=k then p.eventA else Option.map(fun x=>x.add(k * 2))p.eventA)=aS:=⟨_,rfl⟩
   refine wp_region_held_drew(S:=fun w'=>w'.cell? ⟨w.heap.size,4,none⟩=some(.slice p.eventA p.events.length p.eventC))(by kernel_rfl)HS.out(fun hHeld=> ?_)
   refine tk 0(v:= ?_) ?_ hHeld ?_; rotate_left; (intro w0 hS0; have hS1:=hS0; go_simp; try with_reducible rfl); simp only [pt,sb,s0,s1]
   refine tk 2(v:= ?_) ?_ hHeld ?_; rotate_left; (intro w0 hS0; have hS1:=hS0; go_simp; try with_reducible rfl); simp only [pt,sb,s0,s1]
   refine tk 3(v:= ?_) ?_ hHeld ?_; rotate_left; (intro w0 hS0; have hS1:=hS0; go_simp; try with_reducible rfl); simp only [pt,sb,s0,s1]
   refine tk 4(v:= ?_) ?_ hHeld ?_; rotate_left; (intro w0 hS0; have hS1:=hS0; go_simp; try with_reducible rfl); simp only [pt,sb,s0,s1]
   refine tk 5(v:= ?_) ?_ hHeld ?_; rotate_left; (intro w0 hS0; have hS1:=hS0; go_simp; try with_reducible rfl); simp only [pt,sb,s0,s1]
   refine wpAnyH_ready(rs:= [1])(by kernel_rfl)(by simp) ?_
   refine AllReadyH.cons rfl(fun K hK=> ?_)AllReadyH.nil
   simp only [List.getElem_toArray,List.getElem_cons_zero,List.getElem_cons_succ]
   rw [if_pos(by rfl)]
   go_wp2_with fail
   refine hK.out _ _ HS.out(fun hHeld=> ?_)
   clear hK K
   try simp only [pt,sb,s0,s1]
   have hbd:Below W8.heap.size W8 W8.drew:=(Below.refl _ _).drew
   have hl7:=HO7.out.2.2
   have hkd:(p.events.drop k).length=p.events.length - k:=List.length_drop
   obtain⟨a9,c9,w9,hr,ho9,hg9,-⟩:=more_event W8.drew W2.heap.size a7 c7(p.events.take k ++ [(⟨id,false⟩:EventD)])(by rw [hl7]; exact own_below H8.out.2.1 hbd)aS(p.events.drop k)(p.eventC - k)(by rw [← haS]; exact tail_src hcap(H8.out.1.1.2.1.below hbd).at.2.2.1.1)(by rw [hl7,hkd]; omega)H8.out.2.2
   rw [hl7,hkd] at hr ho9
   have hb9:Below W2.heap.size W8.drew w9:=(Below.refl _ _).grown(a:=W8.drew)hg9 H8.out.2.2 fun c e=>(own_lt H8.out.2.1(own_block e)).1
   have hq:=HQ.out
   have h8:=H8.out
   have hol:o < W2.heap.size:=hq.2.2.2.2.2.2
   have hwl:w.heap.size+1 < o:=by omega
   have ho10:w9.heap[o]? =some(.cells #[.int .i64 q.id,.int .i64 q.next,.slice q.procA q.procs.length q.procC,.slice q.semA q.sems.length q.semC,.slice a7(k+1)c7,.slice q.boardA q.boards.length q.boardC,.slice q.bufferA q.buffers.length q.bufferC,.slice q.portA q.ports.length q.portC] 32(0,0)):=(hb9.block _ hol).trans h8.1.2.1
   have H9:Hid(w9.cell? ⟨w.heap.size,4,none⟩=some(.slice p.eventA p.events.length p.eventC)∧(w9.setCell⟨o,4,none⟩(.slice a9(k+1+(p.events.length - k))c9)).cell? ⟨w.heap.size,4,none⟩=some(.slice p.eventA p.events.length p.eventC)):=by
    have e1:w9.cell? ⟨w.heap.size,4,none⟩=some(.slice p.eventA p.events.length p.eventC):=(World.cell?_of_block(hb9.block _(by show w.heap.size < _; omega))).trans HS.out
    exact⟨e1,(World.cell?_of_block(setCell_other(by show w.heap.size≠o; omega))).trans e1⟩
   have hln:((p.events.take k ++ [(⟨id,false⟩:EventD)]) ++ p.events.drop k).length=k+1+(p.events.length - k):=by rw [List.length_append,hl7,hkd]
   have hpu:({ q with events:=(p.events.take k ++ [(⟨id,false⟩:EventD)]) ++ p.events.drop k,eventA:=a9,eventC:=c9 } :PartD).pure= { p.pure with events:=insF(·.id)(⟨id,false⟩:EventD)p.pure.events } :=by
    have e1:(p.events.take k ++ [(⟨id,false⟩:EventD)]) ++ p.events.drop k=insF(·.id)(⟨id,false⟩:EventD)p.pure.events:=by
     rw [List.append_assoc]
     exact insF_at HA.out(fun y hy=>by have h5:=HX.out y hy; show ¬ y.id < id; omega)
    have e2:=HQ.out.2.2.1
    show ({ q.pure with events:=(p.events.take k ++ [(⟨id,false⟩:EventD)]) ++ p.events.drop k } :PartP)=_
    rw [e1,e2]
   have H10:Hid(PartBox(w9.setCell⟨o,4,none⟩(.slice a9(k+1+(p.events.length - k))c9))w.heap.size p∧PartOwn(w9.setCell⟨o,4,none⟩(.slice a9(k+1+(p.events.length - k))c9))b0 p∧Below w.heap.size w(w9.setCell⟨o,4,none⟩(.slice a9(k+1+(p.events.length - k))c9))∧(w9.setCell⟨o,4,none⟩(.slice a9(k+1+(p.events.length - k))c9)).heap[w.heap.size+1]? =some(.cells zero8 32(0,0))∧PartBox(w9.setCell⟨o,4,none⟩(.slice a9(k+1+(p.events.length - k))c9))o({ q with events:=(p.events.take k ++ [(⟨id,false⟩:EventD)]) ++ p.events.drop k,eventA:=a9,eventC:=c9 } :PartD)∧PartOwn(w9.setCell⟨o,4,none⟩(.slice a9(k+1+(p.events.length - k))c9))W.heap.size({ q with events:=(p.events.take k ++ [(⟨id,false⟩:EventD)]) ++ p.events.drop k,eventA:=a9,eventC:=c9 } :PartD)∧({ q with events:=(p.events.take k ++ [(⟨id,false⟩:EventD)]) ++ p.events.drop k,eventA:=a9,eventC:=c9 } :PartD).pure= { p.pure with events:=insF(·.id)(⟨id,false⟩:EventD)p.pure.events }):=by
    have hpb: ∀ g∈p.blocks,g < w.heap.size:=HPB.out
    have hqb: ∀ g∈q.blocks,g < o:=hq.2.2.2.1
    have sm: ∀ g,g < W2.heap.size→g≠o→(w9.setCell⟨o,4,none⟩(.slice a9(k+1+(p.events.length - k))c9)).heap[g]? =W8.heap[g]? :=fun g hg hne=>(setCell_other hne).trans(hb9.block _ hg)
    have hbw:Below w.heap.size w(w9.setCell⟨o,4,none⟩(.slice a9(k+1+(p.events.length - k))c9)):=below_setCell(h8.1.1.2.2.1.drew.trans(hb9.mono(by omega)))(by omega)
    refine⟨(sm _(by omega)(by omega)).trans h8.1.1.1,h8.1.1.2.1.same fun g hg=>sm g(by have:=hpb g hg; omega)(by have:=hpb g hg; omega),hbw,(sm _(by omega)(by omega)).trans h8.1.1.2.2.2,?_,?_,hpu⟩
    ·have h5:=setCell_block(i:=4)(v:= .slice a9(k+1+(p.events.length - k))c9)ho10
     unfold PartBox
     simp only [hln]
     exact h5
    ·refine h8.1.2.2.newEvent(B:=W2.heap.size)(by omega)(fun g hg=>by have:=hqb g hg; omega)(fun g hg=>sm g(by have:=hqb g hg; omega)(by have:=hqb g hg; omega)) ?_
     rw [hln]
     exact own_same ho9 fun g hg=>setCell_other(by have:=(own_lt ho9 hg).1; omega)
   refine wpAnyH_ready(rs:= [6])(by kernel_rfl)(by simp) ?_
   refine AllReadyH.cons rfl(fun K hK=> ?_)AllReadyH.nil
   simp only [List.getElem_toArray,List.getElem_cons_zero,List.getElem_cons_succ]
   rw [if_pos(by rfl)]
   refine oper_append _ _ _ rfl _ _ _ w9 rfl rfl hr ?_
   refine hK.out _ _ H9.out.1(fun hHeld=> ?_)
   clear hK K
   try simp only [pt,sb,s0,s1]
   obtain⟨⟨u,co⟩,fo⟩:(∃ u,w9.cell? ⟨o,4,none⟩=some u)∧w9.frozen? ⟨o,4,none⟩=false:=⟨⟨_,by rw [cell_of_row _ _ _ _ _ _ ho10]; rfl⟩,frozen_of_row _ _ _ _ _ ho10⟩
   clear hr ho9 hg9 hb9 hq h8 hol hwl ho10 hbd
   refine tk 7(v:= ?_) ?_ hHeld ?_; rotate_left; (intro w0 hS0; have hS1:=hS0; go_simp; try with_reducible rfl); simp only [pt,sb,s0,s1]
   refine wpAnyH_ready(rs:= [8])(by kernel_rfl)(by simp) ?_
   refine AllReadyH.cons rfl(fun K hK=> ?_)AllReadyH.nil
   simp only [List.getElem_toArray,List.getElem_cons_zero,List.getElem_cons_succ]
   rw [if_pos(by rfl)]
   go_wp2_with fail
   refine hK.out _ _ H9.out.2(fun hHeld=> ?_)
   clear hK K
   try simp only [pt,sb,s0,s1]
   refine wpAnyH_done(by kernel_rfl) ?_ _
   clear hHeld co fo H9 HS co8
   generalize w9.setCell⟨o,4,none⟩(.slice a9(k+1+(p.events.length - k))c9)=W10 at *
   have hcall:=l3Checked_any p({ q with events:=(p.events.take k ++ [(⟨id,false⟩:EventD)]) ++ p.events.drop k,eventA:=a9,eventC:=c9 } :PartD)W10⟨HFT.out.1,HFT.out.2.1,H10.out.2.1.at⟩(fun hr=>by
    have h5:PartP.Small({ q with events:=(p.events.take k ++ [(⟨id,false⟩:EventD)]) ++ p.events.drop k,eventA:=a9,eventC:=c9 } :PartD).pure:=by rw [H10.out.2.2.2.2.2.2]; exact insEvent_small HFT.out.2.2.1 hr HFT.out.2.2.2
    exact⟨small_fit h5,fun x hx=>(small_proc h5 hx).1,H10.out.2.2.2.2.2.1.at⟩)
   obtain⟨m0,m1,m2,m3,m4,m5,m6,m7⟩:=H10.out.1.cells
   obtain⟨k0,k1,k2,k3,k4,k5,k6,k7⟩:=H10.out.2.2.2.2.1.cells
   unfold PartD.cells at hcall
   simp only [hln] at hcall k0 k1 k2 k3 k4 k5 k6 k7
   have HLN:Hid(((p.events.take k ++ [(⟨id,false⟩:EventD)]) ++ p.events.drop k).length=k+1+(p.events.length - k)):=hln
   clear hln hl7 hkd haS hpu
   go_wp2_with fail
   refine hcall.mono ?_
   clear hcall m0 m1 m2 m3 m4 m5 m6 m7 k0 k1 k2 k3 k4 k5 k6 k7
   rintro e w11⟨hb11,hok⟩
   have hq:=HQ.out.2.2.2.2
   have HZ:Hid(Below w.heap.size w w11∧w11.heap[w.heap.size+1]? =some(.cells zero8 32(0,0))∧PartOwn w11 W.heap.size({ q with events:=(p.events.take k ++ [(⟨id,false⟩:EventD)]) ++ p.events.drop k,eventA:=a9,eventC:=c9 } :PartD)∧w.heap.size+1 < W.heap.size):=⟨H10.out.2.2.1.trans(hb11.mono H10.out.2.2.1.size),(hb11.block _(Array.getElem?_eq_some_iff.1 H10.out.2.2.2.1).1).trans H10.out.2.2.2.1,H10.out.2.2.2.2.2.1.below hb11,hq.2.1⟩
   clear hb11 hq
   rw [H10.out.2.2.2.2.2.2] at hok
   rcases hok with ⟨hok,rfl⟩ | ⟨hok,rfl⟩
   ·have HN:Hid(withR p.pure { p.pure with events:=insF(·.id)(⟨id,false⟩:EventD)p.pure.events } =some { p.pure with events:=insF(·.id)(⟨id,false⟩:EventD)p.pure.events }):=withR_ok hok
    clear hok
    go_wp2_with (refine stP 4 49(w.heap.size+1) #[.int .i64 q.id,.int .i64 q.next,.slice q.procA q.procs.length q.procC,.slice q.semA q.sems.length q.semC,.slice a9(k+1+(p.events.length - k))c9,.slice q.boardA q.boards.length q.boardC,.slice q.bufferA q.buffers.length q.bufferC,.slice q.portA q.ports.length q.portC] HZ.out.2.1 ?_)
    refine rtQ Tryz.results38(w.heap.size+1) #[.int .i64 q.id,.int .i64 q.next,.slice q.procA q.procs.length q.procC,.slice q.semA q.sems.length q.semC,.slice a9(k+1+(p.events.length - k))c9,.slice q.boardA q.boards.length q.boardC,.slice q.bufferA q.buffers.length q.bufferC,.slice q.portA q.ports.length q.portC] (.bool true)HZ.out.2.1 ?_
    have hl:=HZ.out.2.2.2
    rw [HN.out]
    refine⟨({ q with events:=(p.events.take k ++ [(⟨id,false⟩:EventD)]) ++ p.events.drop k,eventA:=a9,eventC:=c9 } :PartD),by unfold PartD.cells; simp only [HLN.out]; rfl,(HZ.out.2.2.1.lower(by omega)).same fun g hg=>setRow_other _ _ _ _(by have:=(HZ.out.2.2.1.lt g hg).1; omega),H10.out.2.2.2.2.2.2,below_setRow HZ.out.1(by omega)_⟩
   ·have HN:Hid(withR p.pure { p.pure with events:=insF(·.id)(⟨id,false⟩:EventD)p.pure.events } =none):=withR_bad hok
    clear hok
    go_wp2_with (refine stP 4 49(w.heap.size+1)zero8 HZ.out.2.1 ?_)
    refine rtQ Tryz.results38(w.heap.size+1)zero8(.bool false)HZ.out.2.1 ?_
    exact turnRes_no HN.out(below_setRow HZ.out.1(by omega)_)
end Go.Proofs.YtkbcplnlehdjfaaGreat

namespace Go.Proofs.YtkbcplnlehdjfaaGreat
theorem empty_eq {s:ByteArray} (h:emptyB s=true):s=noT:=by
 have h1:s.data.toList= [] :=by simpa [emptyB,ByteArray.toList_eq] using h
 cases s with
 | mk d=>
  have:d= #[] :=Array.toList_eq_nil_iff.1 h1
  rw [this]; rfl
def Up(id:Int)(p:PartP):Prop:= ∀ y∈p.procs,y.id=id→y.state=1
def UpL(id:Int)(p:PartP):Prop:= ∀ y∈p.procs,y.id=id→y.state=1∧y.left=0
section
variable {p:PartP} {id:Int}
theorem UpL.up(h:UpL id p):Up id p:=fun y hy hi=>(h y hy hi).1
theorem Up.not(h:Up id p): ∀ y∈p.procs,y.id=id→ ¬ y.state=0:=fun y hy hi=>by rw [h y hy hi]; decide
theorem Up.other {k nx:Int} {f:ProcP→ProcP} (h:Up id p)(hk: ¬ k=id)(hf: ∀ x,(f x).id=x.id):Up id { p with next:=nx,procs:=turnP k f p.procs } :=fun y hy hi=>by
 obtain⟨z,hz,rfl⟩:=List.mem_map.1(show y∈turnP k f p.procs from hy)
 split at hi
 ·rw [hf] at hi; omega
 ·rw [if_neg ‹_›]; exact h z hz hi
theorem UpL.got {t:ByteArray} {k:Int} (h:UpL id p):UpL id(gotAt t k p):=fun y hy hi=>by
 obtain⟨z,hz,rfl⟩:=List.mem_map.1(show y∈turnP k(gotP t)p.procs from hy)
 split at hi
 ·rw [if_pos ‹_›]; exact h z hz hi
 ·rw [if_neg ‹_›]; exact h z hz hi
theorem Up.wake {f:ProcP→ProcP} {x:ProcP} (h:Up id p)(hx:x∈p.procs)(hs: ¬ x.state=1)(hf: ∀ y,(f y).id=y.id):Up id(wakeAt f p x):=
 Up.other h(fun e=>hs(h x hx e))fun y=>by rw [(wakeF_id _ _ _).1,hf]
theorem Up.wakeAllN {f:ProcP→ProcP} {st on:Int} (hst: ¬ st=1)(hf: ∀ y,(f y).id=y.id): ∀ (n:Nat)(p:PartP),Up id p→Up id(wakeAllN f st on n p)
 | 0,_,h=>h
 | n+1,p,h=>by
  unfold Go.Proofs.YtkbcplnlehdjfaaGreat.wakeAllN
  split
  ·exact h
  ·rename_i x hx
   obtain⟨m1,m2,-⟩:=bestW_mem hx
   exact Up.wakeAllN hst hf n _(h.wake m1(by omega)hf)
theorem Up.wakeAll {f:ProcP→ProcP} {st on:Int} (h:Up id p)(hst: ¬ st=1)(hf: ∀ y,(f y).id=y.id):Up id(wakeAll f st on p):=Up.wakeAllN hst hf _ _ h
theorem past_up {code:Int} (h:PartR p)(hu:Up id p)(hc:inB code 0 3=true):PartR(pastAt code id p):=pastAt_right h hu.not hc
theorem block_right {st on wake:Int} {held:ByteArray} (h:PartR p)(hu:UpL id p)(hn:p.next+1≤1000000000)
  (hs:st=2∧on=0∧emptyB held=true∧inB wake 1 2000000000=true∨(st=5∧plainB held=true∨(st=3∨st=4∨st=6∨st=7)∧emptyB held=true)∧wakeB wake=true∧hasB p st on=true):PartR(blockAt st on held wake id p):=by
 have hnx:=inB_iff.1 h.next
 refine h.turn(f:=blockF p.next st on held wake)(fun _=>rfl)⟨by omega,hn⟩fun x hx hi=> ?_
 obtain⟨hx1,hx2⟩:=hu x hx hi
 obtain⟨-,k1,k2,k3⟩:=h.proc hx
 have hop:=op_of_state k1(by rw [hx1]; decide)
 have hb:=body_of k1
 have hh:plainB held=true:=by
  rcases hs with hs | ⟨hs | hs,-⟩
  ·rw [empty_eq hs.2.2.1]; rfl
  ·exact hs.2
  ·rw [empty_eq hs.2]; rfl
 have ho:hasOpB(blockF p.next st on held wake x)=true:=inB_true hop.1(by show x.pc≤(x.prog.length:Int) - 1; omega)
 have hst:stateB(blockF p.next st on held wake x)=true:=by
  unfold stateB
  rw [ho]
  show (if st=0 then _ else if st=1 then _ else if st=2 then true && decide(x.left=0) && inB wake 1 2000000000 && decide(on=0) && emptyB held else if st=5 then true && decide(x.left=0) && wakeB wake else if st=3∨st=4∨st=6∨st=7 then true && decide(x.left=0) && wakeB wake && emptyB held else false)=true
  rw [hx2]
  rcases hs with ⟨rfl,rfl,h3,h4⟩ | ⟨⟨rfl,h3⟩ | ⟨h3,h4⟩,h5,-⟩
  ·simp [h3,h4]
  ·simp [h5]
  ·rcases h3 with rfl | rfl | rfl | rfl <;> simp [h4,h5]
 refine⟨?_,?_,?_,.inr(.inr rfl)⟩
 ·rw [procB_is,Bool.and_eq_true]
  refine⟨?_,hst⟩
  unfold bodyB at hb ⊢
  simp only [Bool.and_eq_true] at hb ⊢
  exact⟨⟨⟨hb.1.1.1,hh⟩,hb.1.2⟩,hb.2⟩
 ·unfold turnB
  rw [Bool.or_eq_true]
  exact .inr(inB_true(by show 1≤p.next; omega)(by show p.next≤p.next+1 - 1; omega))
 ·unfold waitB
  show (if 3≤st then hasB p st on else true)=true
  rcases hs with ⟨rfl,-⟩ | ⟨-,-,h5⟩
  ·rfl
  ·split
   ·exact h5
   ·rfl
theorem or_right {st now:Int} {o:OpD} (h:PartR p)(hu:UpL id p)(hn:p.next+1≤1000000000)(hnow:0≤now∧now≤1000000000)(hm:inB o.2.2.1(-1)1000=true)
  (hs:st=5∧plainB o.2.2.2=true∨(st=3∨st=4∨st=6∨st=7)∧emptyB o.2.2.2=true)(hh:hasB p st o.2.1=true):PartR(orAt st o now id p):=by
 have hm':=inB_iff.1 hm
 unfold orAt
 split
 ·exact past_up h hu.up rfl
 ·refine block_right h hu hn(.inr⟨hs,?_,hh⟩)
  unfold wakeB wakeOf
  rw [Bool.or_eq_true]
  split
  ·exact .inl(inB_true(by omega)(by omega))
  ·exact .inr(by simp)
theorem or_next {st now:Int} {o:OpD} :p.next≤(orAt st o now id p).next∧(orAt st o now id p).next≤p.next+1:=by
 unfold orAt
 split
 ·exact⟨Int.le_refl _,by show p.next≤_; omega⟩
 ·exact⟨by show p.next≤p.next+1; omega,Int.le_refl _⟩
theorem semUp_right {k d:Int} (h:PartR p)(hd: ∀ s∈p.sems,s.id=k→0≤s.n+d∧s.n+d≤s.max):PartR(semUp k d p):=
 h.withSems(by apply up_ids; intro _; rfl)(things_up h.sems(fun _=>rfl)fun s hs hk=>by
  have h1:=(things_all h.sems s hs).2
  unfold semB at h1 ⊢
  simp only [Bool.and_eq_true] at h1 ⊢
  exact⟨h1.1,inB_true(hd s hs hk).1(hd s hs hk).2⟩)
theorem eventUp_right {k:Int} {b:Bool} (h:PartR p):PartR(eventUp k b p):=h.withEvents(by apply up_ids; intro _; rfl)(things_up h.events(fun _=>rfl)fun _ _ _=>rfl)
theorem boardUp_right {k:Int} {b:Bool} {t:ByteArray} (h:PartR p)(ht:plainB t=true)(hb:b=true∨emptyB t=true):PartR(boardUp k b t p):=
 h.withBoards(by apply up_ids; intro _; rfl)(things_up h.boards(fun _=>rfl)fun s hs hk=>by
  unfold boardB
  simp only [Bool.and_eq_true,Bool.or_eq_true]
  exact⟨ht,hb⟩)
theorem texts_iff {l:List ByteArray} {m:Int} :textsB l m=true↔(l.length:Int)≤m∧ ∀ t∈l,plainB t=true:=by
 unfold textsB
 simp [and_comm]
theorem bufferUp_right {k:Int} {l:List ByteArray} (h:PartR p)(hl: ∀ b∈p.buffers,b.id=k→(l.length:Int)≤b.max)(ht: ∀ t∈l,plainB t=true):PartR(bufferUp k l p):=
 h.withBuffers(by apply up_ids; intro _; rfl)(things_up h.buffers(fun _=>rfl)fun s hs hk=>by
  have h1:=(things_all h.buffers s hs).2
  unfold bufferB at h1 ⊢
  simp only [Bool.and_eq_true] at h1 ⊢
  exact⟨h1.1,texts_iff.2⟨hl s hs hk,ht⟩⟩)
theorem portUp_right {k:Int} {l:List ByteArray} (h:PartR p)(hl: ∀ b∈p.ports,b.id=k→(l.length:Int)≤b.max)(ht: ∀ t∈l,plainB t=true):PartR(portUp k l p):=
 h.withPorts(by apply up_ids; intro _; rfl)(things_up h.ports(fun _=>rfl)fun s hs hk=>by
  have h1:=(things_all h.ports s hs).2
  unfold portB at h1 ⊢
  simp only [Bool.and_eq_true] at h1 ⊢
  exact⟨h1.1,texts_iff.2⟨hl s hs hk,ht⟩⟩)
theorem only {α:Type} {num:α→Int} {ok:α→Bool} {last k:Int} {l:List α} {x y:α} (h:thingsB num ok last l=true)(hx:findA num k l=some x)(hy:y∈l)(hk:num y=k):y=x:=by
 obtain⟨h1,h2⟩:=findA_mem hx
 have h5:=(things_rise h).2
 rw [List.pairwise_iff_getElem] at h5
 obtain⟨i,hi1,rfl⟩:=List.mem_iff_getElem.1 hy
 obtain⟨j,hj1,rfl⟩:=List.mem_iff_getElem.1 h1
 rcases Nat.lt_trichotomy i j with hlt | heq | hgt
 ·have:=h5 i j hi1 hj1 hlt; omega
 ·subst heq; rfl
 ·have:=h5 j i hj1 hi1 hgt; omega
theorem has_of {α:Type} {num:α→Int} {k:Int} {l:List α} {x:α} (h:findA num k l=some x):decide(k∈l.map num)=true:=by
 obtain⟨h1,h2⟩:=findA_mem h
 exact decide_eq_true(List.mem_map.2⟨x,h1,h2⟩)
end
end Go.Proofs.YtkbcplnlehdjfaaGreat
