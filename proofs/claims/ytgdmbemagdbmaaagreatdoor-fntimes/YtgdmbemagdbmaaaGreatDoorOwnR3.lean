/- What the proof leans on, part 3. -/
import Derived.Test.YtgdmbemagdbmaaaGreatDoorOwnR0
import Derived.Test.YtgdmbemagdbmaaaGreatDoorOwnR2
import Derived.Deep.AppendSrc
set_option linter.unusedVariables false
set_option maxRecDepth 100000
set_option maxHeartbeats 8000000
open Go.Proofs.Tryz
open Go renaming World->w_,Value->v_,Calls->k_,Addr->d_,TypeId->T_
open Go.Ending renaming returned->r_
open Go.IntKind renaming i64->j_
open Go.Obj renaming cells->c_
open Go.RowKit renaming Below->B_
open Go.Value renaming int->i_,slice->s_,bool->b_,string->t_,agg->a_,pointer->p_,tuple->u_
open Option renaming some->o_,none->n_
open Array renaming getElem?_eq_some_iff->J2
open Bool renaming and_eq_true->J7,false_eq_true->J5,or_eq_true->Kb
open ByteArray renaming size_append->QH
open Go renaming bodyPost_ret->KT,callsIn_wide->LO,heap_alloc_new->Kj,wpList_append_own_at->KD,wp_at_succ->Kd,wp_at_zero->Kc
open Go.ByteArray renaming toList_eq->PQ
open Go.Proofs renaming enters_of->LP
open Go.Proofs.AnyZI renaming keys_gives->RD,keys_in->RC,sorted_in->RE
open Go.Proofs.Tryz renaming prog->J3
open Go.RowKit renaming run_makeMap->P4
open Go.RowKit.Below renaming refl->Kp
open Go.World renaming news_of_block->KE,ownsRow_nil->Ke
open List renaming getElem?_eq_getElem->Kz,length_map->KG,length_take->Lk,map_append->Kl,map_map->Lv,mem_cons->Kt,mem_map->Lr,mem_of_getElem?->KA,not_mem_nil->Ku,pairwise_cons->LM,take_length->LQ,take_of_length_le->KF
open Nat renaming le_refl->Ki,zero_add->Li,zero_le->Ky
open Option renaming isNone_iff_eq_none->PX,isSome_eq_false_iff->PY,map_eq_some_iff->Kw
open Option.some renaming inj->KC
open Prod.mk renaming injEq->Kx

namespace Go.Proofs
open Go.RowKit Go.Maps Go.Sort Go.Shelf
theorem Tryz.sortsA (m : Nat) : AnyZI.SortsIn J3 Tryz.sortedA_ren Fence.wide m :=
  ⟨fun blk off cap ss W hH hblk hsz => LO.2 (AnyM.slices_Sort_int Tryz.sortA blk off cap ss W hH hblk hsz),
   fun p cap W => LO.2 (AnyM.slices_Sort_int_none Tryz.sortA p cap W)⟩
namespace YtgdmbemagdbmaaaGreatDoor
theorem oA : ∀ {l1 l2 : List Int}, l1.Perm l2 → l1.Pairwise (· ≤ ·) → l2.Pairwise (· ≤ ·) → l1 = l2
  | [], l2, hp, _, _ => (List.nil_perm.1 hp).symm
  | a :: t, [], hp, _, _ => absurd (List.perm_nil.1 hp) (by simp)
  | a :: t, b :: s, hp, h1, h2 => by
    obtain ⟨ha, ht⟩ := LM.1 h1;obtain ⟨hb, hs⟩ := LM.1 h2;have hab : a = b := by
      have m1 : a ∈ b :: s := hp.mem_iff.1 (by simp);have m2 : b ∈ a :: t := hp.mem_iff.2 (by simp);rcases Kt.1 m1 with e | m1
      · exact e
      · rcases Kt.1 m2 with e | m2
        · exact e.symm
        · have := ha b m2
          have := hb a m1;omega
    subst hab;rw [oA (List.perm_cons a |>.1 hp) ht hs]
theorem lU (m : df) : intKeys (gA m) = m.map (·.1) := by
  simp only [intKeys, gA, Lv];rfl
theorem jG {m : df} (h : zP m) {ss : List Int} (hp : ss.Perm (intKeys (gA m))) : ss.mergeSort (fun x y => decide (x ≤ y)) = m.map (·.1) := by
  rw [lU] at hp;refine oA ((List.mergeSort_perm _ _).trans hp) ?_ ?_
  · have := List.pairwise_mergeSort (le := fun x y : Int => decide (x ≤ y)) (fun a b c h1 h2 => by simp at *; omega) (fun a b => by simp; omega) ss
    exact this.imp (fun {a b} h => by simpa using h)
  · rw [List.pairwise_map]
    exact List.Pairwise.imp (fun {a b} h => by omega) h
theorem cr {w : w_} {base n size : Nat} {e : T_} {v : v_} {xs : List v_} (h : w.ownsRow base e size v n xs) : ∃ a cap, v =s_ a n cap ∧ Row w a xs := by
  obtain ⟨hl, h2⟩ := h;rcases h2 with ⟨rfl, rfl⟩ | ⟨g, cap, cur, rfl, hb, hg, h3, h4, h5, h6⟩
  · have : xs = [] := List.eq_nil_of_length_eq_zero (by simpa using hl)
    subst this;exact ⟨n_, 0, rfl, Row.nothing _ _⟩
  · refine ⟨o_ ⟨g, 0, n_⟩, cap, rfl, fun j u hu => ⟨g, rfl, ?_⟩⟩
    rw [cell_of_row w g j cur e (0, 0) hg];rw [← h6, List.getElem?_take] at hu
    split at hu
    · simpa using hu
    · cases hu
theorem cq {w : w_} {base base' n size : Nat} {e : T_} {v : v_} {xs : List v_} (h : w.ownsRow base e size v n xs) (hb : base' ≤ base) : w.ownsRow base' e size v n xs := by
  obtain ⟨hl, h2⟩ := h;refine ⟨hl, ?_⟩;rcases h2 with h2 | ⟨g, cap, cur, h1, h3, h4⟩
  · exact .inl h2
  · exact .inr ⟨g, cap, cur, h1, by omega, h4⟩
end YtgdmbemagdbmaaaGreatDoor
end Go.Proofs

namespace Go.Proofs.YtgdmbemagdbmaaaGreatDoor
section
open Go.RowKit
structure ol where
 id:Int
 next:Int
 bp:Nat
 bs:Nat
 be:Nat
 bb:Nat
 bf:Nat
 bq:Nat
def ol.cells (q:ol):Array v_:= #[i_ j_ q.id,i_ j_ q.next,i_ j_ 6,.map (o_ q.bp),i_ j_ 5,.map (o_ q.bs),i_ j_ 5,.map (o_ q.be),i_ j_ 5,.map (o_ q.bb),i_ j_ 5,.map (o_ q.bf),i_ j_ 5,.map (o_ q.bq)]
def fa (W:w_) (o:Nat) (q:ol):Prop:=W.heap[o]? =o_ (c_ q.cells 92)
theorem fa.below {W W':w_} {o:Nat} {q:ol} (h:fa W o q) (hb:B_ W.heap.size W W'):fa W' o q:=(hb.block o (J2.1 h).1).trans h
theorem fa.cell {W:w_} {o:Nat} {q:ol} (h:fa W o q) (i:Nat):W.cell? ⟨o,i,n_⟩=q.cells[i]? :=by
 unfold fa at h;simp [World.cell?,h]
structure fu (w W:w_) (o X:Nat) (q:ol) (x:ao) (ms me mb mf:df):Prop where
 opn:fa W o q
 box:W.heap[X]? =o_ (c_ (aX x) 44)
 ms:cF W q.bs ms
 me:cF W q.be me
 mb:cF W q.bb mb
 mf:cF W q.bf mf
 cd:B_ w.heap.size w W
theorem fu.below {w W W':w_} {o X:Nat} {q:ol} {x:ao} {ms me mb mf:df} (h:fu w W o X q x ms me mb mf) (hb:B_ W.heap.size W W'):fu w W' o X q x ms me mb mf:=
 ⟨h.opn.below hb,(hb.block _ (J2.1 h.box).1).trans h.box,h.ms.below hb,h.me.below hb,h.mb.below hb,h.mf.below hb,h.cd.trans (hb.mono h.cd.size)⟩
theorem fu.drew {w W:w_} {o X:Nat} {q:ol} {x:ao} {ms me mb mf:df} (h:fu w W o X q x ms me mb mf):fu w W.drew o X q x ms me mb mf:=h.below (Kp _ _).drew
def fw (ms me mb mf:df) (x:ao):Bool:=
 if x.Md=3 then (cz ms x.on).isSome else if x.Md=4 then (cz me x.on).isSome else if x.Md=5∨x.Md=6 then (cz mf x.on).isSome else if x.Md=7 then (cz mb x.on).isSome else true
structure oV (w W:w_) (x:ao):Prop where
 box:W.heap[w.heap.size]? =o_ (c_ (aX x) 44)
 fit:eL W x
 cd:B_ w.heap.size w W
theorem oV.below {w W W':w_} {x:ao} (h:oV w W x) (hb:B_ W.heap.size W W'):oV w W' x:=
 ⟨(hb.block _ (J2.1 h.box).1).trans h.box,h.fit.below hb,h.cd.trans (hb.mono h.cd.size)⟩
theorem oV.start {w:w_} {x:ao} (h:eL w x):oV w (w.alloc (c_ (aX x) 44)) x:=by
 have b1:B_ w.heap.size w (w.alloc (c_ (aX x) 44)):=(Kp _ _).alloc (Ki _) _;exact ⟨Kj _ _,h.below b1,b1⟩
theorem p9 {s:ByteArray} (h:s.toList= []):bI s=true:=by simp [bI,h]
theorem sf {s:ByteArray} (h: ¬ s.toList= []):bI s=false:=by simp [bI,h]
theorem aA {p:Prop} (h:p):Hid p:=h
theorem SD {a b c d e f:Prop} (h1:a) (h2:b) (h3:c) (h4:d) (h5:e) (h6:f):a∧b∧c∧d∧e∧f:=⟨h1,h2,h3,h4,h5,h6⟩
theorem mu (a b:Int):(a == b)=decide (a=b):=by rw [Bool.eq_iff_iff]; simp
theorem Jh (a b c d:Bool):a=false∨(a=true∧b=false)∨(a=true∧b=true∧c=false)∨(a=true∧b=true∧c=true∧d=false)∨(a=true∧b=true∧c=true∧d=true):=by
 revert a b c d
 decide
theorem ways5 (a b c d e:Bool):a=false∨(a=true∧b=false)∨(a=true∧b=true∧c=false)∨(a=true∧b=true∧c=true∧d=false)∨(a=true∧b=true∧c=true∧d=true∧e=false)∨(a=true∧b=true∧c=true∧d=true∧e=true):=by
 revert a b c d e
 decide
theorem qL (a b c d:Bool):a=false∨(a=true∧b=false)∨(a=true∧b=true∧c=true)∨(a=true∧b=true∧c=false∧d=false)∨(a=true∧b=true∧c=false∧d=true):=by
 revert a b c d
 decide
theorem state0 {x:aD} (h:x.Md=0):bO x=((x.pc == 0) && (x.left == 0) && (x.Mg == 0) && (x.on == 0) && (x.RU == 0) && bI x.held):=by simp [bO,h,mu]
theorem Da (x:ao) (w:w_) (hf:eL w x) (hs:x.Md=0):k_ J3 234 #[a_ (aX x)] w fun e w'=>e=r_ (b_ (bO x.toaD))∧B_ w.heap.size w w':=by
 have HE:=aA (state0 hs);have HI:=aA (oV.start hf);clear hf;obtain ⟨⟨id,RX,prog,Md,pc,left,Mg,on,held,got,code,RU⟩,aY,bH⟩:=x;replace hs:Md=0:=hs;subst hs;obtain ⟨v0,h0⟩: ∃ v,(pc == 0)=v:=⟨_,rfl⟩
 obtain ⟨v1,h1⟩: ∃ v,(left == 0)=v:=⟨_,rfl⟩
 obtain ⟨v2,h2⟩: ∃ v,(Mg == 0)=v:=⟨_,rfl⟩
 obtain ⟨v3,h3⟩: ∃ v,(on == 0)=v:=⟨_,rfl⟩
 obtain ⟨v4,h4⟩: ∃ v,(RU == 0)=v:=⟨_,rfl⟩
 have HE:=aA (HE.I.trans (show _=(v0 && v1 && v2 && v3 && v4 && bI held) by simp only [h0,h1,h2,h3,h4]));obtain ⟨c0,c1,c2,c3,c4,c5,c6,c7,c8,c9,qF,pe⟩:=bo HI.I.box;unfold aX at *;rcases ways5 v0 v1 v2 v3 v4 with rfl | ⟨rfl,rfl⟩ | ⟨rfl,rfl,rfl⟩ | ⟨rfl,rfl,rfl,rfl⟩ | ⟨rfl,rfl,rfl,rfl,rfl⟩ | ⟨rfl,rfl,rfl,rfl,rfl⟩
 all_goals
  go_enter func234,ntmps234
  go_wp2;go_ret;exact ⟨al (by rw [HE.I]; simp [bI]),HI.I.cd⟩
theorem state1 {x:aD} (h:x.Md=1):bO x=(dU x && jJ x && (x.Mg == 0) && (x.on == 0) && bI x.held):=by simp [bO,h,mu]
theorem CL (x:ao) (w:w_) (hf:eL w x) (hs:x.Md=1):k_ J3 234 #[a_ (aX x)] w fun e w'=>e=r_ (b_ (bO x.toaD))∧B_ w.heap.size w w':=by
 have HE:=aA (state1 hs);have HI:=aA (oV.start hf);clear hf;obtain ⟨⟨id,RX,prog,Md,pc,left,Mg,on,held,got,code,RU⟩,aY,bH⟩:=x;replace hs:Md=1:=hs;subst hs;obtain ⟨v0,h0⟩: ∃ v,dU ⟨id,RX,prog,1,pc,left,Mg,on,held,got,code,RU⟩=v:=⟨_,rfl⟩
 obtain ⟨v1,h1⟩: ∃ v,jJ ⟨id,RX,prog,1,pc,left,Mg,on,held,got,code,RU⟩=v:=⟨_,rfl⟩
 obtain ⟨v2,h2⟩: ∃ v,(Mg == 0)=v:=⟨_,rfl⟩
 obtain ⟨v3,h3⟩: ∃ v,(on == 0)=v:=⟨_,rfl⟩
 have HE:=aA (HE.I.trans (show _=(v0 && v1 && v2 && v3 && bI held) by simp only [h0,h1,h2,h3]));have tc:=aA h0;clear h0;have I8:=aA h1;clear h1;obtain ⟨c0,c1,c2,c3,c4,c5,c6,c7,c8,c9,qF,pe⟩:=bo HI.I.box;unfold aX at *;rcases Jh v0 v1 v2 v3 with rfl | ⟨rfl,rfl⟩ | ⟨rfl,rfl,rfl⟩ | ⟨rfl,rfl,rfl,rfl⟩ | ⟨rfl,rfl,rfl,rfl⟩
 all_goals
  go_enter func234,ntmps234
  go_wp2_with (first | (go_at_call 146; refine (kn _ _ HI.I.fit.1.prog).mono ?_; rintro e w1 ⟨rfl,hb1⟩; have HI:=aA (HI.I.below hb1); obtain ⟨c0,c1,c2,c3,c4,c5,c6,c7,c8,c9,qF,pe⟩:=bo HI.I.box; clear hb1; rw [tc.I]) | (go_at_call 235; refine (CP _ _ HI.I.fit tc.I).mono ?_; rintro e w1 ⟨rfl,hb1⟩; have HI:=aA (HI.I.below hb1); obtain ⟨c0,c1,c2,c3,c4,c5,c6,c7,c8,c9,qF,pe⟩:=bo HI.I.box; clear hb1; rw [I8.I]));go_ret;exact ⟨al (by rw [HE.I]; simp [bI]),HI.I.cd⟩
theorem state2 {x:aD} (h:x.Md=2):bO x=(dU x && (x.left == 0) && cv x.Mg 1 2000000000 && (x.on == 0) && bI x.held):=by simp [bO,h,mu]
theorem Cw (x:ao) (w:w_) (hf:eL w x) (hs:x.Md=2):k_ J3 234 #[a_ (aX x)] w fun e w'=>e=r_ (b_ (bO x.toaD))∧B_ w.heap.size w w':=by
 have HE:=aA (state2 hs);have HI:=aA (oV.start hf);clear hf;obtain ⟨⟨id,RX,prog,Md,pc,left,Mg,on,held,got,code,RU⟩,aY,bH⟩:=x;replace hs:Md=2:=hs;subst hs;obtain ⟨v0,h0⟩: ∃ v,dU ⟨id,RX,prog,2,pc,left,Mg,on,held,got,code,RU⟩=v:=⟨_,rfl⟩
 obtain ⟨v1,h1⟩: ∃ v,(left == 0)=v:=⟨_,rfl⟩
 obtain ⟨v2,h2⟩: ∃ v,cv Mg 1 2000000000=v:=⟨_,rfl⟩
 obtain ⟨v3,h3⟩: ∃ v,(on == 0)=v:=⟨_,rfl⟩
 have HE:=aA (HE.I.trans (show _=(v0 && v1 && v2 && v3 && bI held) by simp only [h0,h1,h2,h3]));have tc:=aA h0;clear h0;have Hd:=aA h2;clear h2;obtain ⟨c0,c1,c2,c3,c4,c5,c6,c7,c8,c9,qF,pe⟩:=bo HI.I.box;unfold aX at *;rcases Jh v0 v1 v2 v3 with rfl | ⟨rfl,rfl⟩ | ⟨rfl,rfl,rfl⟩ | ⟨rfl,rfl,rfl,rfl⟩ | ⟨rfl,rfl,rfl,rfl⟩
 all_goals
  go_enter func234,ntmps234
  go_wp2_with (first | (go_at_call 146; refine (kn _ _ HI.I.fit.1.prog).mono ?_; rintro e w1 ⟨rfl,hb1⟩; have HI:=aA (HI.I.below hb1); obtain ⟨c0,c1,c2,c3,c4,c5,c6,c7,c8,c9,qF,pe⟩:=bo HI.I.box; clear hb1; rw [tc.I]) | (go_at_call 236; refine (kb Mg _).mono ?_; rintro e w1 ⟨rfl,hw1⟩; rw [Hd.I,hw1]; clear hw1 w1));go_ret;exact ⟨al (by rw [HE.I]; simp [bI]),HI.I.cd⟩
theorem state3 {x:aD} (h:x.Md=3):bO x=(dU x && (x.left == 0) && (cv x.Mg 1 2000000000 || (x.Mg == -1)) && bI x.held):=by simp [bO,h,mu,lh]
theorem CU (x:ao) (w:w_) (hf:eL w x) (hs:x.Md=3):k_ J3 234 #[a_ (aX x)] w fun e w'=>e=r_ (b_ (bO x.toaD))∧B_ w.heap.size w w':=by
 have HE:=aA (state3 hs);have HI:=aA (oV.start hf);clear hf;obtain ⟨⟨id,RX,prog,Md,pc,left,Mg,on,held,got,code,RU⟩,aY,bH⟩:=x;replace hs:Md=3:=hs;subst hs;obtain ⟨v0,h0⟩: ∃ v,dU ⟨id,RX,prog,3,pc,left,Mg,on,held,got,code,RU⟩=v:=⟨_,rfl⟩
 exact aa
theorem state4 {x:aD} (h:x.Md=4):bO x=(dU x && (x.left == 0) && (cv x.Mg 1 2000000000 || (x.Mg == -1)) && bI x.held):=by simp [bO,h,mu,lh]
theorem Cv (x:ao) (w:w_) (hf:eL w x) (hs:x.Md=4):k_ J3 234 #[a_ (aX x)] w fun e w'=>e=r_ (b_ (bO x.toaD))∧B_ w.heap.size w w':=by
 have HE:=aA (state4 hs);have HI:=aA (oV.start hf);clear hf;obtain ⟨⟨id,RX,prog,Md,pc,left,Mg,on,held,got,code,RU⟩,aY,bH⟩:=x;replace hs:Md=4:=hs;subst hs;obtain ⟨v0,h0⟩: ∃ v,dU ⟨id,RX,prog,4,pc,left,Mg,on,held,got,code,RU⟩=v:=⟨_,rfl⟩
 exact aa
theorem state5 {x:aD} (h:x.Md=5):bO x=(dU x && (x.left == 0) && (cv x.Mg 1 2000000000 || (x.Mg == -1))):=by simp [bO,h,mu,lh]
theorem Dp (x:ao) (w:w_) (hf:eL w x) (hs:x.Md=5):k_ J3 234 #[a_ (aX x)] w fun e w'=>e=r_ (b_ (bO x.toaD))∧B_ w.heap.size w w':=by
 have HE:=aA (state5 hs);have HI:=aA (oV.start hf);clear hf;obtain ⟨⟨id,RX,prog,Md,pc,left,Mg,on,held,got,code,RU⟩,aY,bH⟩:=x;replace hs:Md=5:=hs;subst hs;obtain ⟨v0,h0⟩: ∃ v,dU ⟨id,RX,prog,5,pc,left,Mg,on,held,got,code,RU⟩=v:=⟨_,rfl⟩
 obtain ⟨v1,h1⟩: ∃ v,(left == 0)=v:=⟨_,rfl⟩
 obtain ⟨v2,h2⟩: ∃ v,cv Mg 1 2000000000=v:=⟨_,rfl⟩
 obtain ⟨v3,h3⟩: ∃ v,(Mg == -1)=v:=⟨_,rfl⟩
 have HE:=aA (HE.I.trans (show _=(v0 && v1 && (v2 || v3)) by simp only [h0,h1,h2,h3]));have tc:=aA h0;clear h0;have Hd:=aA h2;clear h2;obtain ⟨c0,c1,c2,c3,c4,c5,c6,c7,c8,c9,qF,pe⟩:=bo HI.I.box;unfold aX at *;rcases qL v0 v1 v2 v3 with rfl | ⟨rfl,rfl⟩ | ⟨rfl,rfl,rfl⟩ | ⟨rfl,rfl,rfl,rfl⟩ | ⟨rfl,rfl,rfl,rfl⟩
 all_goals
  go_enter func234,ntmps234
  go_wp2_with (first | (go_at_call 146; refine (kn _ _ HI.I.fit.1.prog).mono ?_; rintro e w1 ⟨rfl,hb1⟩; have HI:=aA (HI.I.below hb1); obtain ⟨c0,c1,c2,c3,c4,c5,c6,c7,c8,c9,qF,pe⟩:=bo HI.I.box; clear hb1; rw [tc.I]) | (go_at_call 236; refine (kb Mg _).mono ?_; rintro e w1 ⟨rfl,hw1⟩; rw [Hd.I,hw1]; clear hw1 w1));go_ret;exact ⟨al (by rw [HE.I]; simp),HI.I.cd⟩
theorem state6 {x:aD} (h:x.Md=6):bO x=(dU x && (x.left == 0) && (cv x.Mg 1 2000000000 || (x.Mg == -1)) && bI x.held):=by simp [bO,h,mu,lh]
theorem DC (x:ao) (w:w_) (hf:eL w x) (hs:x.Md=6):k_ J3 234 #[a_ (aX x)] w fun e w'=>e=r_ (b_ (bO x.toaD))∧B_ w.heap.size w w':=by
 have HE:=aA (state6 hs);have HI:=aA (oV.start hf);clear hf;obtain ⟨⟨id,RX,prog,Md,pc,left,Mg,on,held,got,code,RU⟩,aY,bH⟩:=x;replace hs:Md=6:=hs;subst hs;obtain ⟨v0,h0⟩: ∃ v,dU ⟨id,RX,prog,6,pc,left,Mg,on,held,got,code,RU⟩=v:=⟨_,rfl⟩
 exact aa
theorem state7 {x:aD} (h:x.Md=7):bO x=(dU x && (x.left == 0) && (cv x.Mg 1 2000000000 || (x.Mg == -1)) && bI x.held):=by simp [bO,h,mu,lh]
theorem Db (x:ao) (w:w_) (hf:eL w x) (hs:x.Md=7):k_ J3 234 #[a_ (aX x)] w fun e w'=>e=r_ (b_ (bO x.toaD))∧B_ w.heap.size w w':=by
 have HE:=aA (state7 hs);have HI:=aA (oV.start hf);clear hf;obtain ⟨⟨id,RX,prog,Md,pc,left,Mg,on,held,got,code,RU⟩,aY,bH⟩:=x;replace hs:Md=7:=hs;subst hs;obtain ⟨v0,h0⟩: ∃ v,dU ⟨id,RX,prog,7,pc,left,Mg,on,held,got,code,RU⟩=v:=⟨_,rfl⟩
 exact aa
theorem zu (x:ao) (w:w_) (h0: ¬ x.Md=0) (h1: ¬ x.Md=1) (h2: ¬ x.Md=2) (h3: ¬ x.Md=3) (h4: ¬ x.Md=4) (h5: ¬ x.Md=5) (h6: ¬ x.Md=6) (h7: ¬ x.Md=7):k_ J3 234 #[a_ (aX x)] w fun e w'=>e=r_ (b_ (bO x.toaD))∧B_ w.heap.size w w':=by
 have HV:Hid (bO x.toaD=false):=by show bO x.toaD=false; simp [bO,h0,h1,h2,h3,h4,h5,h6,h7]
 have s0:(x.Md == 0)=false:=by simp [h0]
 have s1:(x.Md == 1)=false:=by simp [h1]
 have s2:(x.Md == 2)=false:=by simp [h2]
 have s3:(x.Md == 3)=false:=by simp [h3]
 have s4:(x.Md == 4)=false:=by simp [h4]
 have s5:(x.Md == 5)=false:=by simp [h5]
 have s6:(x.Md == 6)=false:=by simp [h6]
 have s7:(x.Md == 7)=false:=by simp [h7]
 clear h0 h1 h2 h3 h4 h5 h6 h7;unfold aX
 go_enter func234,ntmps234
 exact ZaK
theorem Am (x:ao) (w:w_) (hf:eL w x):k_ J3 234 #[a_ (aX x)] w fun e w'=>e=r_ (b_ (bO x.toaD))∧B_ w.heap.size w w':=by
 by_cases h0:x.Md=0
 ·exact Da x w hf h0
 by_cases h1:x.Md=1
 ·exact CL x w hf h1
 by_cases h2:x.Md=2
 ·exact Cw x w hf h2
 by_cases h3:x.Md=3
 ·exact CU x w hf h3
 by_cases h4:x.Md=4
 ·exact Cv x w hf h4
 by_cases h5:x.Md=5
 ·exact Dp x w hf h5
 by_cases h6:x.Md=6
 ·exact DC x w hf h6
 by_cases h7:x.Md=7
 ·exact Db x w hf h7
 exact zu x w h0 h1 h2 h3 h4 h5 h6 h7
end
section
open Go.RowKit
attribute [local go_sem ↓] Kc Kd
def yk (w:w_) (b:Nat) (m:df) (Me:Int) (x:bD) (w':w_):Prop:=(w'.cell? ⟨w.heap.size,0,n_⟩=o_ (i_ j_ Me)∧w'.cell? ⟨w.heap.size,1,n_⟩=o_ (.map (o_ b))∧(∀ ty,(Builtin.len_ #[76] ty #[.map (o_ b)]).run J3 w'= .ok (i_ j_ (m.length:Int)) w')∧w'.cell? ⟨w.heap.size+1,0,n_⟩=o_ (i_ j_ x.id)∧w'.cell? ⟨w.heap.size+1,1,n_⟩=o_ (i_ j_ x.n)∧w'.cell? ⟨w.heap.size+1,2,n_⟩=o_ (i_ j_ x.max))∧Hid (fe w w' w.heap.size (w.heap.size+1) b m Me (eH x) 59 78)∧Hid (kU w' x)
theorem jz {w w':w_} {b:Nat} {m:df} {Me:Int} {x:bD} (h:fe w w' w.heap.size (w.heap.size+1) b m Me (eH x) 59 78) (hf:kU w' x):yk w b m Me x w':=
 ⟨⟨h.cells.1,h.cells.2,fun ty=>h.mp.len underlying76 ty,gm h.bx⟩,h,hf⟩
theorem tU (Me:Int) (b:Nat) (m:df) (x:bD) (w:w_) (h:cF w b m) (hw:(Lit.int j_ x.id).wf=true) (hm:m.length≤1048576) (hf:kU w x):
  k_ J3 41 #[a_ #[i_ j_ Me,.map (o_ b)],a_ (eH x)] w fun e w'=>dD w b m (iI Me m x.id (gw x)) x.id (eH x) 59 e w':=by
 have HF:Hid (fe w ((w.alloc (c_ #[i_ j_ Me,.map (o_ b)] 78)).alloc (c_ (eH x) 59)) w.heap.size (w.heap.size+1) b m Me (eH x) 59 78):=fe.start w h Me _ _ _;have HW:Hid ((Lit.int j_ x.id).wf=true∧ ¬ w.heap.size+1=b∧m.length≤1048576):=⟨hw,by have:=h.lt; omega,hm⟩
 have HI:Hid (kU ((w.alloc (c_ #[i_ j_ Me,.map (o_ b)] 78)).alloc (c_ (eH x) 59)) x):=hf.below ((((Kp _ w).alloc (Ki _) _)).alloc (by simp) _);have hmn:=pb;have hmr:=wW;obtain ⟨s0,s1⟩:=HF.I.cells;obtain ⟨c0,c1,c2⟩:=gm HF.I.bx;clear h hw hf hm;unfold eH at *
 go_enter func41,ntmps41
 go_wp2_with fail;clear s0 s1 c0 c1 c2;obtain ⟨vA,hA⟩: ∃ v,(cz m x.id).isSome=v:=⟨_,rfl⟩
 obtain ⟨vB,F6⟩: ∃ v,decide (Me≤(m.length:Int))=v:=⟨_,rfl⟩
 obtain ⟨vC,hC⟩: ∃ v,cv x.id 1 1000=v:=⟨_,rfl⟩
 obtain ⟨vD,hD⟩: ∃ v,gw x=v:=⟨_,rfl⟩
 have HL:Hid (iI Me m x.id (gw x)=(!vA && !vB && vC && vD)∧(vA=false→cz m x.id=n_)):=⟨pi hA F6 hC hD,fun e=>PX.1 (PY.1 (hA.trans e))⟩
 have HA:Hid (Ending.returned (b_ (cz m x.id).isSome)=r_ (b_ vA)):=al hA;have HC:Hid (Ending.returned (b_ (cv x.id 1 1000))=r_ (b_ vC)):=al hC;have HD:Hid (Ending.returned (b_ (gw x))=r_ (b_ vD)):=al hD;clear hA hC hD;refine aT (yk w b m Me x) ZcI (jz HF.I.drew (HI.I.below (Kp _ _).drew)) ?_
 iterate 3 (refine agj ?_)
 (refine cl (i_ j_ x.id) 238 #[a_ #[i_ j_ x.id,i_ j_ x.n,i_ j_ x.max]] ?_ ?_ ?_; (intro w0 hS0; obtain ⟨⟨q0,q1,q2,q3,q4,q5⟩,hH⟩:=hS0; go_simp; try with_reducible rfl); (intro w0 hS0; refine (jv x w0).mono ?_; rintro e w2 ⟨rfl,hb2⟩; exact ⟨rfl,jz (hS0.2.1.I.below hb2) (hS0.2.2.I.below hb2)⟩); simp only [pt,sb,s0,s1])
 (refine cl (b_ vA) 77 #[a_ #[i_ j_ Me,.map (o_ b)],i_ j_ x.id] ?_ ?_ ?_; (intro w0 hS0; obtain ⟨⟨q0,q1,q2,q3,q4,q5⟩,hH⟩:=hS0; go_simp; try with_reducible rfl); (intro w0 hS0; refine (tZ Me b m x.id w0 hS0.2.1.I.mp HW.I.1).mono ?_; rintro e w2 ⟨rfl,hb2⟩; exact ⟨HA.I,jz (hS0.2.1.I.below hb2) (hS0.2.2.I.below hb2)⟩); simp only [pt,sb,s0,s1])
 (refine agj ?_)
 rcases vA.eq_false_or_eq_true with rfl | rfl
 focus iterate 6 (refine nl ?_; simp only [pt,sb,s0,s1])
 rotate_left
 focus iterate 6 (refine agj ?_)
 all_goals iterate 2 (refine agj ?_)
 rcases vB.eq_false_or_eq_true with rfl | rfl
 focus iterate 5 (refine nl ?_; simp only [pt,sb,s0,s1])
 rotate_left
 focus
  iterate 2 (refine agj ?_)
  (refine cl (i_ j_ x.id) 238 #[a_ #[i_ j_ x.id,i_ j_ x.n,i_ j_ x.max]] ?_ ?_ ?_; (intro w0 hS0; obtain ⟨⟨q0,q1,q2,q3,q4,q5⟩,hH⟩:=hS0; go_simp; try with_reducible rfl); (intro w0 hS0; refine (jv x w0).mono ?_; rintro e w2 ⟨rfl,hb2⟩; exact ⟨rfl,jz (hS0.2.1.I.below hb2) (hS0.2.2.I.below hb2)⟩); simp only [pt,sb,s0,s1])
  (refine cl (b_ vC) 70 #[i_ j_ x.id] ?_ ?_ ?_; (intro w0 hS0; obtain ⟨⟨q0,q1,q2,q3,q4,q5⟩,hH⟩:=hS0; go_simp; try with_reducible rfl); (intro w0 hS0; refine (eW x.id w0).mono ?_; rintro e w2 ⟨rfl,rfl⟩; exact ⟨HC.I,hS0⟩); simp only [pt,sb,s0,s1])
  (refine agj ?_)
 rotate_left
 focus iterate 5 (refine nl ?_; simp only [pt,sb,s0,s1])
 all_goals iterate 2 (refine agj ?_)
 rotate_right
 rcases vC.eq_false_or_eq_true with rfl | rfl
 focus
  iterate 2 (refine agj ?_)
  (refine cl (b_ vD) 239 #[a_ #[i_ j_ x.id,i_ j_ x.n,i_ j_ x.max]] ?_ ?_ ?_; (intro w0 hS0; obtain ⟨⟨q0,q1,q2,q3,q4,q5⟩,hH⟩:=hS0; go_simp; try with_reducible rfl); (intro w0 hS0; refine (ye x w0 hS0.2.2.I).mono ?_; rintro e w2 ⟨rfl,hb2⟩; exact ⟨HD.I,jz (hS0.2.1.I.below hb2) (hS0.2.2.I.below hb2)⟩); simp only [pt,sb,s0,s1])
  (refine agj ?_)
 rotate_left
 focus iterate 4 (refine nl ?_; simp only [pt,sb,s0,s1])
 rotate_left
 focus iterate 4 (refine nl ?_; simp only [pt,sb,s0,s1])
 rotate_left
 focus iterate 4 (refine nl ?_; simp only [pt,sb,s0,s1])
 rotate_left
 all_goals (refine agj ?_)
 all_goals refine bk ZcI ?_ _
 all_goals intro w1 cm
 rcases vD.eq_false_or_eq_true with rfl | rfl;rotate_left
 iterate 4
  exact ZaJ
 go_wp2_with fail;refine eD (yk w b m Me x) 5 ZcI (jz cm.2.1.I.drew (cm.2.2.I.below (Kp _ _).drew)) ?_
 iterate 4 (refine ly 6 (v:= ?_) (o_ _) rfl rfl ZcI (fun _ _ _ h=>h) (bV ZcI ?_) ?_; rotate_left; (intro w0 hS0; obtain ⟨⟨q0,q1,q2,q3,q4,q5⟩,hH⟩:=hS0; go_simp; try with_reducible rfl); simp only [pt,sb,s0,s1])
 refine ly 6 (v:=i_ j_ x.id) (o_ _) rfl rfl ZcI (fun _ _ _ h=>h) (iZ (f:=238) (args:= #[a_ #[i_ j_ x.id,i_ j_ x.n,i_ j_ x.max]]) ZcI ?_ ?_) ?_
 ·exact Zcu
 ·intro w0 hS0
  refine (jv x w0).mono ?_;rintro e w2 ⟨rfl,hb2⟩;exact ⟨rfl,jz (hS0.2.1.I.below hb2) (hS0.2.2.I.below hb2)⟩
 simp only [pt,sb,s0,s1];refine fL rfl ZcI ZcI ZcI ?_;intro w1 cm;obtain ⟨w2,hput,hend⟩:=cm.2.1.I.put (by omega) underlying76 HW.I.1 (HL.I.2 (by trivial)) HW.I.2.2 HW.I.2.1;have HE:Hid (dD w b m true x.id (eH x) 59 (r_ (b_ true)) w2):=hend;exact Zae
def sk (w:w_) (b:Nat) (m:df) (Me:Int) (x:aB) (w':w_):Prop:=(w'.cell? ⟨w.heap.size,0,n_⟩=o_ (i_ j_ Me)∧w'.cell? ⟨w.heap.size,1,n_⟩=o_ (.map (o_ b))∧(∀ ty,(Builtin.len_ #[79] ty #[.map (o_ b)]).run J3 w'= .ok (i_ j_ (m.length:Int)) w')∧w'.cell? ⟨w.heap.size+1,0,n_⟩=o_ (i_ j_ x.id)∧w'.cell? ⟨w.heap.size+1,1,n_⟩=o_ (b_ x.up))∧Hid (fe w w' w.heap.size (w.heap.size+1) b m Me (cG x) 122 81)∧Hid (ix w' x)
theorem ik {w w':w_} {b:Nat} {m:df} {Me:Int} {x:aB} (h:fe w w' w.heap.size (w.heap.size+1) b m Me (cG x) 122 81) (hf:ix w' x):sk w b m Me x w':=
 ⟨⟨h.cells.1,h.cells.2,fun ty=>h.mp.len underlying79 ty,kF h.bx⟩,h,hf⟩
theorem rC (Me:Int) (b:Nat) (m:df) (x:aB) (w:w_) (h:cF w b m) (hw:(Lit.int j_ x.id).wf=true) (hm:m.length≤1048576) (hf:ix w x):
  k_ J3 79 #[a_ #[i_ j_ Me,.map (o_ b)],a_ (cG x)] w fun e w'=>dD w b m (iI Me m x.id (ey x)) x.id (cG x) 122 e w':=by
 have HF:Hid (fe w ((w.alloc (c_ #[i_ j_ Me,.map (o_ b)] 81)).alloc (c_ (cG x) 122)) w.heap.size (w.heap.size+1) b m Me (cG x) 122 81):=fe.start w h Me _ _ _;have HW:Hid ((Lit.int j_ x.id).wf=true∧ ¬ w.heap.size+1=b∧m.length≤1048576):=⟨hw,by have:=h.lt; omega,hm⟩
 have HI:Hid (ix ((w.alloc (c_ #[i_ j_ Me,.map (o_ b)] 81)).alloc (c_ (cG x) 122)) x):=hf.below ((((Kp _ w).alloc (Ki _) _)).alloc (by simp) _);have hmn:=mT;have hmr:=tp;obtain ⟨s0,s1⟩:=HF.I.cells;obtain ⟨c0,c1⟩:=kF HF.I.bx;clear h hw hf hm;unfold cG at *
 go_enter func79,ntmps79
 go_wp2_with fail;clear s0 s1 c0 c1;obtain ⟨vA,hA⟩: ∃ v,(cz m x.id).isSome=v:=⟨_,rfl⟩
 obtain ⟨vB,F6⟩: ∃ v,decide (Me≤(m.length:Int))=v:=⟨_,rfl⟩
 obtain ⟨vC,hC⟩: ∃ v,cv x.id 1 1000=v:=⟨_,rfl⟩
 obtain ⟨vD,hD⟩: ∃ v,ey x=v:=⟨_,rfl⟩
 have HL:Hid (iI Me m x.id (ey x)=(!vA && !vB && vC && vD)∧(vA=false→cz m x.id=n_)):=⟨pi hA F6 hC hD,fun e=>PX.1 (PY.1 (hA.trans e))⟩
 have HA:Hid (Ending.returned (b_ (cz m x.id).isSome)=r_ (b_ vA)):=al hA;have HC:Hid (Ending.returned (b_ (cv x.id 1 1000))=r_ (b_ vC)):=al hC;have HD:Hid (Ending.returned (b_ (ey x))=r_ (b_ vD)):=al hD;clear hA hC hD;refine aT (sk w b m Me x) ZcI (ik HF.I.drew (HI.I.below (Kp _ _).drew)) ?_
 iterate 3 (refine agj ?_)
 (refine cl (i_ j_ x.id) 252 #[a_ #[i_ j_ x.id,b_ x.up]] ?_ ?_ ?_; (intro w0 hS0; obtain ⟨⟨q0,q1,q2,q3,q4⟩,hH⟩:=hS0; go_simp; try with_reducible rfl); (intro w0 hS0; refine (iw x w0).mono ?_; rintro e w2 ⟨rfl,hb2⟩; exact ⟨rfl,ik (hS0.2.1.I.below hb2) (hS0.2.2.I.below hb2)⟩); simp only [pt,sb,s0,s1])
 (refine cl (b_ vA) 112 #[a_ #[i_ j_ Me,.map (o_ b)],i_ j_ x.id] ?_ ?_ ?_; (intro w0 hS0; obtain ⟨⟨q0,q1,q2,q3,q4⟩,hH⟩:=hS0; go_simp; try with_reducible rfl); (intro w0 hS0; refine (rj Me b m x.id w0 hS0.2.1.I.mp HW.I.1).mono ?_; rintro e w2 ⟨rfl,hb2⟩; exact ⟨HA.I,ik (hS0.2.1.I.below hb2) (hS0.2.2.I.below hb2)⟩); simp only [pt,sb,s0,s1])
 (refine agj ?_)
 rcases vA.eq_false_or_eq_true with rfl | rfl
 focus iterate 6 (refine nl ?_; simp only [pt,sb,s0,s1])
 rotate_left
 focus iterate 6 (refine agj ?_)
 all_goals iterate 2 (refine agj ?_)
 rcases vB.eq_false_or_eq_true with rfl | rfl
 focus iterate 5 (refine nl ?_; simp only [pt,sb,s0,s1])
 rotate_left
 focus
  iterate 2 (refine agj ?_)
  (refine cl (i_ j_ x.id) 252 #[a_ #[i_ j_ x.id,b_ x.up]] ?_ ?_ ?_; (intro w0 hS0; obtain ⟨⟨q0,q1,q2,q3,q4⟩,hH⟩:=hS0; go_simp; try with_reducible rfl); (intro w0 hS0; refine (iw x w0).mono ?_; rintro e w2 ⟨rfl,hb2⟩; exact ⟨rfl,ik (hS0.2.1.I.below hb2) (hS0.2.2.I.below hb2)⟩); simp only [pt,sb,s0,s1])
  (refine cl (b_ vC) 70 #[i_ j_ x.id] ?_ ?_ ?_; (intro w0 hS0; obtain ⟨⟨q0,q1,q2,q3,q4⟩,hH⟩:=hS0; go_simp; try with_reducible rfl); (intro w0 hS0; refine (eW x.id w0).mono ?_; rintro e w2 ⟨rfl,rfl⟩; exact ⟨HC.I,hS0⟩); simp only [pt,sb,s0,s1])
  (refine agj ?_)
 rotate_left
 focus iterate 5 (refine nl ?_; simp only [pt,sb,s0,s1])
 all_goals iterate 2 (refine agj ?_)
 rotate_right
 rcases vC.eq_false_or_eq_true with rfl | rfl
 focus
  iterate 2 (refine agj ?_)
  (refine cl (b_ vD) 253 #[a_ #[i_ j_ x.id,b_ x.up]] ?_ ?_ ?_; (intro w0 hS0; obtain ⟨⟨q0,q1,q2,q3,q4⟩,hH⟩:=hS0; go_simp; try with_reducible rfl); (intro w0 hS0; refine (tX x w0 hS0.2.2.I).mono ?_; rintro e w2 ⟨rfl,hb2⟩; exact ⟨HD.I,ik (hS0.2.1.I.below hb2) (hS0.2.2.I.below hb2)⟩); simp only [pt,sb,s0,s1])
  (refine agj ?_)
 rotate_left
 focus iterate 4 (refine nl ?_; simp only [pt,sb,s0,s1])
 rotate_left
 focus iterate 4 (refine nl ?_; simp only [pt,sb,s0,s1])
 rotate_left
 focus iterate 4 (refine nl ?_; simp only [pt,sb,s0,s1])
 rotate_left
 all_goals (refine agj ?_)
 all_goals refine bk ZcI ?_ _
 all_goals intro w1 cm
 rcases vD.eq_false_or_eq_true with rfl | rfl;rotate_left
 iterate 4
  exact ZaJ
 go_wp2_with fail;refine eD (sk w b m Me x) 5 ZcI (ik cm.2.1.I.drew (cm.2.2.I.below (Kp _ _).drew)) ?_
 iterate 4 (refine ly 6 (v:= ?_) (o_ _) rfl rfl ZcI (fun _ _ _ h=>h) (bV ZcI ?_) ?_; rotate_left; (intro w0 hS0; obtain ⟨⟨q0,q1,q2,q3,q4⟩,hH⟩:=hS0; go_simp; try with_reducible rfl); simp only [pt,sb,s0,s1])
 refine ly 6 (v:=i_ j_ x.id) (o_ _) rfl rfl ZcI (fun _ _ _ h=>h) (iZ (f:=252) (args:= #[a_ #[i_ j_ x.id,b_ x.up]]) ZcI ?_ ?_) ?_
 ·intro w0 hS0
  obtain ⟨⟨q0,q1,q2,q3,q4⟩,hH⟩:=hS0
  exact Fd
 ·intro w0 hS0
  refine (iw x w0).mono ?_;rintro e w2 ⟨rfl,hb2⟩;exact ⟨rfl,ik (hS0.2.1.I.below hb2) (hS0.2.2.I.below hb2)⟩
 simp only [pt,sb,s0,s1];refine fL rfl ZcI ZcI ZcI ?_;intro w1 cm;obtain ⟨w2,hput,hend⟩:=cm.2.1.I.put (by omega) underlying79 HW.I.1 (HL.I.2 (by trivial)) HW.I.2.2 HW.I.2.1;have HE:Hid (dD w b m true x.id (cG x) 122 (r_ (b_ true)) w2):=hend;exact Zae
def rP (w:w_) (b:Nat) (m:df) (Me:Int) (x:az) (w':w_):Prop:=(w'.cell? ⟨w.heap.size,0,n_⟩=o_ (i_ j_ Me)∧w'.cell? ⟨w.heap.size,1,n_⟩=o_ (.map (o_ b))∧(∀ ty,(Builtin.len_ #[82] ty #[.map (o_ b)]).run J3 w'= .ok (i_ j_ (m.length:Int)) w')∧w'.cell? ⟨w.heap.size+1,0,n_⟩=o_ (i_ j_ x.id)∧w'.cell? ⟨w.heap.size+1,1,n_⟩=o_ (b_ x.shown)∧w'.cell? ⟨w.heap.size+1,2,n_⟩=o_ (t_ x.text))∧Hid (fe w w' w.heap.size (w.heap.size+1) b m Me (cI x) 126 84)∧Hid (gX w' x)
theorem ii {w w':w_} {b:Nat} {m:df} {Me:Int} {x:az} (h:fe w w' w.heap.size (w.heap.size+1) b m Me (cI x) 126 84) (hf:gX w' x):rP w b m Me x w':=
 ⟨⟨h.cells.1,h.cells.2,fun ty=>h.mp.len underlying82 ty,kJ h.bx⟩,h,hf⟩
theorem rr (Me:Int) (b:Nat) (m:df) (x:az) (w:w_) (h:cF w b m) (hw:(Lit.int j_ x.id).wf=true) (hm:m.length≤1048576) (hf:gX w x):
  k_ J3 80 #[a_ #[i_ j_ Me,.map (o_ b)],a_ (cI x)] w fun e w'=>dD w b m (iI Me m x.id (cU x)) x.id (cI x) 126 e w':=by
 have HF:Hid (fe w ((w.alloc (c_ #[i_ j_ Me,.map (o_ b)] 84)).alloc (c_ (cI x) 126)) w.heap.size (w.heap.size+1) b m Me (cI x) 126 84):=fe.start w h Me _ _ _;have HW:Hid ((Lit.int j_ x.id).wf=true∧ ¬ w.heap.size+1=b∧m.length≤1048576):=⟨hw,by have:=h.lt; omega,hm⟩
 have HI:Hid (gX ((w.alloc (c_ #[i_ j_ Me,.map (o_ b)] 84)).alloc (c_ (cI x) 126)) x):=hf.below ((((Kp _ w).alloc (Ki _) _)).alloc (by simp) _);have hmn:=nr;have hmr:=tq;obtain ⟨s0,s1⟩:=HF.I.cells;obtain ⟨c0,c1,c2⟩:=kJ HF.I.bx;clear h hw hf hm;unfold cI at *
 go_enter func80,ntmps80
 go_wp2_with fail;clear s0 s1 c0 c1 c2;obtain ⟨vA,hA⟩: ∃ v,(cz m x.id).isSome=v:=⟨_,rfl⟩
 obtain ⟨vB,F6⟩: ∃ v,decide (Me≤(m.length:Int))=v:=⟨_,rfl⟩
 obtain ⟨vC,hC⟩: ∃ v,cv x.id 1 1000=v:=⟨_,rfl⟩
 obtain ⟨vD,hD⟩: ∃ v,cU x=v:=⟨_,rfl⟩
 have HL:Hid (iI Me m x.id (cU x)=(!vA && !vB && vC && vD)∧(vA=false→cz m x.id=n_)):=⟨pi hA F6 hC hD,fun e=>PX.1 (PY.1 (hA.trans e))⟩
 have HA:Hid (Ending.returned (b_ (cz m x.id).isSome)=r_ (b_ vA)):=al hA;have HC:Hid (Ending.returned (b_ (cv x.id 1 1000))=r_ (b_ vC)):=al hC;have HD:Hid (Ending.returned (b_ (cU x))=r_ (b_ vD)):=al hD;clear hA hC hD;refine aT (rP w b m Me x) ZcI (ii HF.I.drew (HI.I.below (Kp _ _).drew)) ?_
 iterate 3 (refine agj ?_)
 (refine cl (i_ j_ x.id) 255 #[a_ #[i_ j_ x.id,b_ x.shown,t_ x.text]] ?_ ?_ ?_; (intro w0 hS0; obtain ⟨⟨q0,q1,q2,q3,q4,q5⟩,hH⟩:=hS0; go_simp; try with_reducible rfl); (intro w0 hS0; refine (iq x w0).mono ?_; rintro e w2 ⟨rfl,hb2⟩; exact ⟨rfl,ii (hS0.2.1.I.below hb2) (hS0.2.2.I.below hb2)⟩); simp only [pt,sb,s0,s1])
 (refine cl (b_ vA) 113 #[a_ #[i_ j_ Me,.map (o_ b)],i_ j_ x.id] ?_ ?_ ?_; (intro w0 hS0; obtain ⟨⟨q0,q1,q2,q3,q4,q5⟩,hH⟩:=hS0; go_simp; try with_reducible rfl); (intro w0 hS0; refine (qM Me b m x.id w0 hS0.2.1.I.mp HW.I.1).mono ?_; rintro e w2 ⟨rfl,hb2⟩; exact ⟨HA.I,ii (hS0.2.1.I.below hb2) (hS0.2.2.I.below hb2)⟩); simp only [pt,sb,s0,s1])
 (refine agj ?_)
 rcases vA.eq_false_or_eq_true with rfl | rfl
 focus iterate 6 (refine nl ?_; simp only [pt,sb,s0,s1])
 rotate_left
 focus iterate 6 (refine agj ?_)
 all_goals iterate 2 (refine agj ?_)
 rcases vB.eq_false_or_eq_true with rfl | rfl
 focus iterate 5 (refine nl ?_; simp only [pt,sb,s0,s1])
 rotate_left
 focus
  iterate 2 (refine agj ?_)
  (refine cl (i_ j_ x.id) 255 #[a_ #[i_ j_ x.id,b_ x.shown,t_ x.text]] ?_ ?_ ?_; (intro w0 hS0; obtain ⟨⟨q0,q1,q2,q3,q4,q5⟩,hH⟩:=hS0; go_simp; try with_reducible rfl); (intro w0 hS0; refine (iq x w0).mono ?_; rintro e w2 ⟨rfl,hb2⟩; exact ⟨rfl,ii (hS0.2.1.I.below hb2) (hS0.2.2.I.below hb2)⟩); simp only [pt,sb,s0,s1])
  (refine cl (b_ vC) 70 #[i_ j_ x.id] ?_ ?_ ?_; (intro w0 hS0; obtain ⟨⟨q0,q1,q2,q3,q4,q5⟩,hH⟩:=hS0; go_simp; try with_reducible rfl); (intro w0 hS0; refine (eW x.id w0).mono ?_; rintro e w2 ⟨rfl,rfl⟩; exact ⟨HC.I,hS0⟩); simp only [pt,sb,s0,s1])
  (refine agj ?_)
 rotate_left
 focus iterate 5 (refine nl ?_; simp only [pt,sb,s0,s1])
 all_goals iterate 2 (refine agj ?_)
 rotate_right
 rcases vC.eq_false_or_eq_true with rfl | rfl
 focus
  iterate 2 (refine agj ?_)
  (refine cl (b_ vD) 256 #[a_ #[i_ j_ x.id,b_ x.shown,t_ x.text]] ?_ ?_ ?_; (intro w0 hS0; obtain ⟨⟨q0,q1,q2,q3,q4,q5⟩,hH⟩:=hS0; go_simp; try with_reducible rfl); (intro w0 hS0; refine (wd x w0 hS0.2.2.I).mono ?_; rintro e w2 ⟨rfl,hb2⟩; exact ⟨HD.I,ii (hS0.2.1.I.below hb2) (hS0.2.2.I.below hb2)⟩); simp only [pt,sb,s0,s1])
  (refine agj ?_)
 rotate_left
 focus iterate 4 (refine nl ?_; simp only [pt,sb,s0,s1])
 rotate_left
 focus iterate 4 (refine nl ?_; simp only [pt,sb,s0,s1])
 rotate_left
 focus iterate 4 (refine nl ?_; simp only [pt,sb,s0,s1])
 rotate_left
 all_goals (refine agj ?_)
 all_goals refine bk ZcI ?_ _
 all_goals intro w1 cm
 rcases vD.eq_false_or_eq_true with rfl | rfl;rotate_left
 iterate 4
  exact ZaJ
 go_wp2_with fail;refine eD (rP w b m Me x) 5 ZcI (ii cm.2.1.I.drew (cm.2.2.I.below (Kp _ _).drew)) ?_
 iterate 4 (refine ly 6 (v:= ?_) (o_ _) rfl rfl ZcI (fun _ _ _ h=>h) (bV ZcI ?_) ?_; rotate_left; (intro w0 hS0; obtain ⟨⟨q0,q1,q2,q3,q4,q5⟩,hH⟩:=hS0; go_simp; try with_reducible rfl); simp only [pt,sb,s0,s1])
 refine ly 6 (v:=i_ j_ x.id) (o_ _) rfl rfl ZcI (fun _ _ _ h=>h) (iZ (f:=255) (args:= #[a_ #[i_ j_ x.id,b_ x.shown,t_ x.text]]) ZcI ?_ ?_) ?_
 ·exact Zcu
 ·intro w0 hS0
  refine (iq x w0).mono ?_;rintro e w2 ⟨rfl,hb2⟩;exact ⟨rfl,ii (hS0.2.1.I.below hb2) (hS0.2.2.I.below hb2)⟩
 simp only [pt,sb,s0,s1];refine fL rfl ZcI ZcI ZcI ?_;intro w1 cm;obtain ⟨w2,hput,hend⟩:=cm.2.1.I.put (by omega) underlying82 HW.I.1 (HL.I.2 (by trivial)) HW.I.2.2 HW.I.2.1;have HE:Hid (dD w b m true x.id (cI x) 126 (r_ (b_ true)) w2):=hend;exact Zae
def qq (w:w_) (b:Nat) (m:df) (Me:Int) (x:au) (w':w_):Prop:=(w'.cell? ⟨w.heap.size,0,n_⟩=o_ (i_ j_ Me)∧w'.cell? ⟨w.heap.size,1,n_⟩=o_ (.map (o_ b))∧(∀ ty,(Builtin.len_ #[85] ty #[.map (o_ b)]).run J3 w'= .ok (i_ j_ (m.length:Int)) w')∧w'.cell? ⟨w.heap.size+1,0,n_⟩=o_ (i_ j_ x.id)∧w'.cell? ⟨w.heap.size+1,1,n_⟩=o_ (i_ j_ x.max)∧w'.cell? ⟨w.heap.size+1,2,n_⟩=o_ (s_ x.ak x.Ma.length x.aq))∧Hid (fe w w' w.heap.size (w.heap.size+1) b m Me (bQ x) 114 87)∧Hid (fM w' x)
theorem gB {w w':w_} {b:Nat} {m:df} {Me:Int} {x:au} (h:fe w w' w.heap.size (w.heap.size+1) b m Me (bQ x) 114 87) (hf:fM w' x):qq w b m Me x w':=
 ⟨⟨h.cells.1,h.cells.2,fun ty=>h.mp.len underlying85 ty,ia h.bx⟩,h,hf⟩
theorem pV (Me:Int) (b:Nat) (m:df) (x:au) (w:w_) (h:cF w b m) (hw:(Lit.int j_ x.id).wf=true) (hm:m.length≤1048576) (hf:fM w x):
  k_ J3 42 #[a_ #[i_ j_ Me,.map (o_ b)],a_ (bQ x)] w fun e w'=>dD w b m (iI Me m x.id (ct x.toci)) x.id (bQ x) 114 e w':=by
 have HF:Hid (fe w ((w.alloc (c_ #[i_ j_ Me,.map (o_ b)] 87)).alloc (c_ (bQ x) 114)) w.heap.size (w.heap.size+1) b m Me (bQ x) 114 87):=fe.start w h Me _ _ _;have HW:Hid ((Lit.int j_ x.id).wf=true∧ ¬ w.heap.size+1=b∧m.length≤1048576):=⟨hw,by have:=h.lt; omega,hm⟩
 have HI:Hid (fM ((w.alloc (c_ #[i_ j_ Me,.map (o_ b)] 87)).alloc (c_ (bQ x) 114)) x):=hf.below ((((Kp _ w).alloc (Ki _) _)).alloc (by simp) _);have hmn:=mc;have hmr:=se;obtain ⟨s0,s1⟩:=HF.I.cells;obtain ⟨c0,c1,c2⟩:=ia HF.I.bx;clear h hw hf hm;unfold bQ at *
 go_enter func42,ntmps42
 go_wp2_with fail;clear s0 s1 c0 c1 c2;obtain ⟨vA,hA⟩: ∃ v,(cz m x.id).isSome=v:=⟨_,rfl⟩
 obtain ⟨vB,F6⟩: ∃ v,decide (Me≤(m.length:Int))=v:=⟨_,rfl⟩
 obtain ⟨vC,hC⟩: ∃ v,cv x.id 1 1000=v:=⟨_,rfl⟩
 obtain ⟨vD,hD⟩: ∃ v,ct x.toci=v:=⟨_,rfl⟩
 have HL:Hid (iI Me m x.id (ct x.toci)=(!vA && !vB && vC && vD)∧(vA=false→cz m x.id=n_)):=⟨pi hA F6 hC hD,fun e=>PX.1 (PY.1 (hA.trans e))⟩
 have HA:Hid (Ending.returned (b_ (cz m x.id).isSome)=r_ (b_ vA)):=al hA;have HC:Hid (Ending.returned (b_ (cv x.id 1 1000))=r_ (b_ vC)):=al hC;have HD:Hid (Ending.returned (b_ (ct x.toci))=r_ (b_ vD)):=al hD;clear hA hC hD;refine aT (qq w b m Me x) ZcI (gB HF.I.drew (HI.I.below (Kp _ _).drew)) ?_
 iterate 3 (refine agj ?_)
 (refine cl (i_ j_ x.id) 248 #[a_ #[i_ j_ x.id,i_ j_ x.max,s_ x.ak x.Ma.length x.aq]] ?_ ?_ ?_; (intro w0 hS0; obtain ⟨⟨q0,q1,q2,q3,q4,q5⟩,hH⟩:=hS0; go_simp; try with_reducible rfl); (intro w0 hS0; refine (gP x w0).mono ?_; rintro e w2 ⟨rfl,hb2⟩; exact ⟨rfl,gB (hS0.2.1.I.below hb2) (hS0.2.2.I.below hb2)⟩); simp only [pt,sb,s0,s1])
 (refine cl (b_ vA) 78 #[a_ #[i_ j_ Me,.map (o_ b)],i_ j_ x.id] ?_ ?_ ?_; (intro w0 hS0; obtain ⟨⟨q0,q1,q2,q3,q4,q5⟩,hH⟩:=hS0; go_simp; try with_reducible rfl); (intro w0 hS0; refine (mE Me b m x.id w0 hS0.2.1.I.mp HW.I.1).mono ?_; rintro e w2 ⟨rfl,hb2⟩; exact ⟨HA.I,gB (hS0.2.1.I.below hb2) (hS0.2.2.I.below hb2)⟩); simp only [pt,sb,s0,s1])
 (refine agj ?_)
 rcases vA.eq_false_or_eq_true with rfl | rfl
 focus iterate 6 (refine nl ?_; simp only [pt,sb,s0,s1])
 rotate_left
 focus iterate 6 (refine agj ?_)
 all_goals iterate 2 (refine agj ?_)
 rcases vB.eq_false_or_eq_true with rfl | rfl
 focus iterate 5 (refine nl ?_; simp only [pt,sb,s0,s1])
 rotate_left
 focus
  iterate 2 (refine agj ?_)
  (refine cl (i_ j_ x.id) 248 #[a_ #[i_ j_ x.id,i_ j_ x.max,s_ x.ak x.Ma.length x.aq]] ?_ ?_ ?_; (intro w0 hS0; obtain ⟨⟨q0,q1,q2,q3,q4,q5⟩,hH⟩:=hS0; go_simp; try with_reducible rfl); (intro w0 hS0; refine (gP x w0).mono ?_; rintro e w2 ⟨rfl,hb2⟩; exact ⟨rfl,gB (hS0.2.1.I.below hb2) (hS0.2.2.I.below hb2)⟩); simp only [pt,sb,s0,s1])
  (refine cl (b_ vC) 70 #[i_ j_ x.id] ?_ ?_ ?_; (intro w0 hS0; obtain ⟨⟨q0,q1,q2,q3,q4,q5⟩,hH⟩:=hS0; go_simp; try with_reducible rfl); (intro w0 hS0; refine (eW x.id w0).mono ?_; rintro e w2 ⟨rfl,rfl⟩; exact ⟨HC.I,hS0⟩); simp only [pt,sb,s0,s1])
  (refine agj ?_)
 rotate_left
 focus iterate 5 (refine nl ?_; simp only [pt,sb,s0,s1])
 all_goals iterate 2 (refine agj ?_)
 rotate_right
 rcases vC.eq_false_or_eq_true with rfl | rfl
 focus
  iterate 2 (refine agj ?_)
  (refine cl (b_ vD) 249 #[a_ #[i_ j_ x.id,i_ j_ x.max,s_ x.ak x.Ma.length x.aq]] ?_ ?_ ?_; (intro w0 hS0; obtain ⟨⟨q0,q1,q2,q3,q4,q5⟩,hH⟩:=hS0; go_simp; try with_reducible rfl); (intro w0 hS0; refine (Sr x w0 hS0.2.2.I).mono ?_; rintro e w2 ⟨rfl,hb2⟩; exact ⟨HD.I,gB (hS0.2.1.I.below hb2) (hS0.2.2.I.below hb2)⟩); simp only [pt,sb,s0,s1])
  (refine agj ?_)
 rotate_left
 focus iterate 4 (refine nl ?_; simp only [pt,sb,s0,s1])
 rotate_left
 focus iterate 4 (refine nl ?_; simp only [pt,sb,s0,s1])
 rotate_left
 focus iterate 4 (refine nl ?_; simp only [pt,sb,s0,s1])
 rotate_left
 all_goals (refine agj ?_)
 all_goals refine bk ZcI ?_ _
 all_goals intro w1 cm
 rcases vD.eq_false_or_eq_true with rfl | rfl;rotate_left
 iterate 4
  exact ZaJ
 go_wp2_with fail;refine eD (qq w b m Me x) 5 ZcI (gB cm.2.1.I.drew (cm.2.2.I.below (Kp _ _).drew)) ?_
 iterate 4 (refine ly 6 (v:= ?_) (o_ _) rfl rfl ZcI (fun _ _ _ h=>h) (bV ZcI ?_) ?_; rotate_left; (intro w0 hS0; obtain ⟨⟨q0,q1,q2,q3,q4,q5⟩,hH⟩:=hS0; go_simp; try with_reducible rfl); simp only [pt,sb,s0,s1])
 refine ly 6 (v:=i_ j_ x.id) (o_ _) rfl rfl ZcI (fun _ _ _ h=>h) (iZ (f:=248) (args:= #[a_ #[i_ j_ x.id,i_ j_ x.max,s_ x.ak x.Ma.length x.aq]]) ZcI ?_ ?_) ?_
 ·exact Zcu
 ·intro w0 hS0
  refine (gP x w0).mono ?_;rintro e w2 ⟨rfl,hb2⟩;exact ⟨rfl,gB (hS0.2.1.I.below hb2) (hS0.2.2.I.below hb2)⟩
 simp only [pt,sb,s0,s1];refine fL rfl ZcI ZcI ZcI ?_;intro w1 cm;obtain ⟨w2,hput,hend⟩:=cm.2.1.I.put (by omega) underlying85 HW.I.1 (HL.I.2 (by trivial)) HW.I.2.2 HW.I.2.1;have HE:Hid (dD w b m true x.id (bQ x) 114 (r_ (b_ true)) w2):=hend;exact Zae
def vk (w:w_) (b:Nat) (m:df) (Me:Int) (x:aM) (w':w_):Prop:=(w'.cell? ⟨w.heap.size,0,n_⟩=o_ (i_ j_ Me)∧w'.cell? ⟨w.heap.size,1,n_⟩=o_ (.map (o_ b))∧(∀ ty,(Builtin.len_ #[88] ty #[.map (o_ b)]).run J3 w'= .ok (i_ j_ (m.length:Int)) w')∧w'.cell? ⟨w.heap.size+1,0,n_⟩=o_ (i_ j_ x.id)∧w'.cell? ⟨w.heap.size+1,1,n_⟩=o_ (b_ x.I)∧w'.cell? ⟨w.heap.size+1,2,n_⟩=o_ (b_ x.Mf)∧w'.cell? ⟨w.heap.size+1,3,n_⟩=o_ (i_ j_ x.max)∧w'.cell? ⟨w.heap.size+1,4,n_⟩=o_ (s_ x.ak x.Ma.length x.aq))∧Hid (fe w w' w.heap.size (w.heap.size+1) b m Me (cW x) 132 90)∧Hid (jf w' x)
theorem iW {w w':w_} {b:Nat} {m:df} {Me:Int} {x:aM} (h:fe w w' w.heap.size (w.heap.size+1) b m Me (cW x) 132 90) (hf:jf w' x):vk w b m Me x w':=
 ⟨⟨h.cells.1,h.cells.2,fun ty=>h.mp.len underlying88 ty,gE h.bx⟩,h,hf⟩
theorem tb (Me:Int) (b:Nat) (m:df) (x:aM) (w:w_) (h:cF w b m) (hw:(Lit.int j_ x.id).wf=true) (hm:m.length≤1048576) (hf:jf w x):
  k_ J3 81 #[a_ #[i_ j_ Me,.map (o_ b)],a_ (cW x)] w fun e w'=>dD w b m (iI Me m x.id (dj x.todS)) x.id (cW x) 132 e w':=by
 have HF:Hid (fe w ((w.alloc (c_ #[i_ j_ Me,.map (o_ b)] 90)).alloc (c_ (cW x) 132)) w.heap.size (w.heap.size+1) b m Me (cW x) 132 90):=fe.start w h Me _ _ _;have HW:Hid ((Lit.int j_ x.id).wf=true∧ ¬ w.heap.size+1=b∧m.length≤1048576):=⟨hw,by have:=h.lt; omega,hm⟩
 have HI:Hid (jf ((w.alloc (c_ #[i_ j_ Me,.map (o_ b)] 90)).alloc (c_ (cW x) 132)) x):=hf.below ((((Kp _ w).alloc (Ki _) _)).alloc (by simp) _);have hmn:=nY;have hmr:=vZ;obtain ⟨s0,s1⟩:=HF.I.cells;obtain ⟨c0,c1,c2,c3,c4⟩:=gE HF.I.bx;clear h hw hf hm;unfold cW at *
 go_enter func81,ntmps81
 go_wp2_with fail;clear s0 s1 c0 c1 c2 c3 c4;obtain ⟨vA,hA⟩: ∃ v,(cz m x.id).isSome=v:=⟨_,rfl⟩
 obtain ⟨vB,F6⟩: ∃ v,decide (Me≤(m.length:Int))=v:=⟨_,rfl⟩
 obtain ⟨vC,hC⟩: ∃ v,cv x.id 1 1000=v:=⟨_,rfl⟩
 obtain ⟨vD,hD⟩: ∃ v,dj x.todS=v:=⟨_,rfl⟩
 have HL:Hid (iI Me m x.id (dj x.todS)=(!vA && !vB && vC && vD)∧(vA=false→cz m x.id=n_)):=⟨pi hA F6 hC hD,fun e=>PX.1 (PY.1 (hA.trans e))⟩
 have HA:Hid (Ending.returned (b_ (cz m x.id).isSome)=r_ (b_ vA)):=al hA;have HC:Hid (Ending.returned (b_ (cv x.id 1 1000))=r_ (b_ vC)):=al hC;have HD:Hid (Ending.returned (b_ (dj x.todS))=r_ (b_ vD)):=al hD;clear hA hC hD;refine aT (vk w b m Me x) ZcI (iW HF.I.drew (HI.I.below (Kp _ _).drew)) ?_
 iterate 3 (refine agj ?_)
 (refine cl (i_ j_ x.id) 258 #[a_ #[i_ j_ x.id,b_ x.I,b_ x.Mf,i_ j_ x.max,s_ x.ak x.Ma.length x.aq]] ?_ ?_ ?_; (intro w0 hS0; obtain ⟨⟨q0,q1,q2,q3,q4,q5,q6,q7⟩,hH⟩:=hS0; go_simp; try with_reducible rfl); (intro w0 hS0; refine (iN x w0).mono ?_; rintro e w2 ⟨rfl,hb2⟩; exact ⟨rfl,iW (hS0.2.1.I.below hb2) (hS0.2.2.I.below hb2)⟩); simp only [pt,sb,s0,s1])
 (refine cl (b_ vA) 114 #[a_ #[i_ j_ Me,.map (o_ b)],i_ j_ x.id] ?_ ?_ ?_; (intro w0 hS0; obtain ⟨⟨q0,q1,q2,q3,q4,q5,q6,q7⟩,hH⟩:=hS0; go_simp; try with_reducible rfl); (intro w0 hS0; refine (Bb Me b m x.id w0 hS0.2.1.I.mp HW.I.1).mono ?_; rintro e w2 ⟨rfl,hb2⟩; exact ⟨HA.I,iW (hS0.2.1.I.below hb2) (hS0.2.2.I.below hb2)⟩); simp only [pt,sb,s0,s1])
 (refine agj ?_)
 rcases vA.eq_false_or_eq_true with rfl | rfl
 focus iterate 6 (refine nl ?_; simp only [pt,sb,s0,s1])
 rotate_left
 focus iterate 6 (refine agj ?_)
 all_goals iterate 2 (refine agj ?_)
 rcases vB.eq_false_or_eq_true with rfl | rfl
 focus iterate 5 (refine nl ?_; simp only [pt,sb,s0,s1])
 rotate_left
 focus
  iterate 2 (refine agj ?_)
  (refine cl (i_ j_ x.id) 258 #[a_ #[i_ j_ x.id,b_ x.I,b_ x.Mf,i_ j_ x.max,s_ x.ak x.Ma.length x.aq]] ?_ ?_ ?_; (intro w0 hS0; obtain ⟨⟨q0,q1,q2,q3,q4,q5,q6,q7⟩,hH⟩:=hS0; go_simp; try with_reducible rfl); (intro w0 hS0; refine (iN x w0).mono ?_; rintro e w2 ⟨rfl,hb2⟩; exact ⟨rfl,iW (hS0.2.1.I.below hb2) (hS0.2.2.I.below hb2)⟩); simp only [pt,sb,s0,s1])
  (refine cl (b_ vC) 70 #[i_ j_ x.id] ?_ ?_ ?_; (intro w0 hS0; obtain ⟨⟨q0,q1,q2,q3,q4,q5,q6,q7⟩,hH⟩:=hS0; go_simp; try with_reducible rfl); (intro w0 hS0; refine (eW x.id w0).mono ?_; rintro e w2 ⟨rfl,rfl⟩; exact ⟨HC.I,hS0⟩); simp only [pt,sb,s0,s1])
  (refine agj ?_)
 rotate_left
 focus iterate 5 (refine nl ?_; simp only [pt,sb,s0,s1])
 all_goals iterate 2 (refine agj ?_)
 rotate_right
 rcases vC.eq_false_or_eq_true with rfl | rfl
 focus
  iterate 2 (refine agj ?_)
  (refine cl (b_ vD) 259 #[a_ #[i_ j_ x.id,b_ x.I,b_ x.Mf,i_ j_ x.max,s_ x.ak x.Ma.length x.aq]] ?_ ?_ ?_; (intro w0 hS0; obtain ⟨⟨q0,q1,q2,q3,q4,q5,q6,q7⟩,hH⟩:=hS0; go_simp; try with_reducible rfl); (intro w0 hS0; refine (wG x w0 hS0.2.2.I).mono ?_; rintro e w2 ⟨rfl,hb2⟩; exact ⟨HD.I,iW (hS0.2.1.I.below hb2) (hS0.2.2.I.below hb2)⟩); simp only [pt,sb,s0,s1])
  (refine agj ?_)
 rotate_left
 focus iterate 4 (refine nl ?_; simp only [pt,sb,s0,s1])
 rotate_left
 focus iterate 4 (refine nl ?_; simp only [pt,sb,s0,s1])
 rotate_left
 focus iterate 4 (refine nl ?_; simp only [pt,sb,s0,s1])
 rotate_left
 all_goals (refine agj ?_)
 all_goals refine bk ZcI ?_ _
 all_goals intro w1 cm
 rcases vD.eq_false_or_eq_true with rfl | rfl;rotate_left
 iterate 4
  exact ZaJ
 go_wp2_with fail;refine eD (vk w b m Me x) 5 ZcI (iW cm.2.1.I.drew (cm.2.2.I.below (Kp _ _).drew)) ?_
 iterate 4 (refine ly 6 (v:= ?_) (o_ _) rfl rfl ZcI (fun _ _ _ h=>h) (bV ZcI ?_) ?_; rotate_left; (intro w0 hS0; obtain ⟨⟨q0,q1,q2,q3,q4,q5,q6,q7⟩,hH⟩:=hS0; go_simp; try with_reducible rfl); simp only [pt,sb,s0,s1])
 refine ly 6 (v:=i_ j_ x.id) (o_ _) rfl rfl ZcI (fun _ _ _ h=>h) (iZ (f:=258) (args:= #[a_ #[i_ j_ x.id,b_ x.I,b_ x.Mf,i_ j_ x.max,s_ x.ak x.Ma.length x.aq]]) ZcI ?_ ?_) ?_
 ·intro w0 hS0
  obtain ⟨⟨q0,q1,q2,q3,q4,q5,q6,q7⟩,hH⟩:=hS0
  exact Fd
 ·intro w0 hS0
  refine (iN x w0).mono ?_;rintro e w2 ⟨rfl,hb2⟩;exact ⟨rfl,iW (hS0.2.1.I.below hb2) (hS0.2.2.I.below hb2)⟩
 simp only [pt,sb,s0,s1];refine fL rfl ZcI ZcI ZcI ?_;intro w1 cm;obtain ⟨w2,hput,hend⟩:=cm.2.1.I.put (by omega) underlying88 HW.I.1 (HL.I.2 (by trivial)) HW.I.2.2 HW.I.2.1;have HE:Hid (dD w b m true x.id (cW x) 132 (r_ (b_ true)) w2):=hend;exact Zae
end
section
open Go.RowKit Go.Maps
theorem Pl {P:Program} {ev:Operand→v_} {oi:Oper} {T abH:T_} {x y:Operand} {u v:ByteArray} (ho:oi.op= .binOp .add T x y abH) (hx:ev x=t_ u) (hy:ev y=t_ v) (hz:u.size+v.size≤9000000000000000000) (w:w_):(execOp ev oi).run P w= .ok (.value (t_ (u ++ v))) w:=by
 have hs: ¬ 9223372036854775807 < u.size+v.size:=by omega
 simp only [execOp,ho]
 go_simp
section
variable {P:Program} {md:Region.Mode} {ops:Array Oper} {Q:Exit→Act→w_→Prop} {S:w_→Prop} {oi:Oper} {fuel:Nat} {RV:Array Bool} {a:Act} {d:Tmp} {T abH:T_} {x y:Operand} {u v:ByteArray} {a':ByteArray→Act}
theorem ad (n:Nat) (hu:u.size≤2000000000000 * n) (hv:v.size≤2000000000000) (h: ∀ r:ByteArray,Hid (r=u ++ v)→r.size≤2000000000000 * (n+1)→gR P md ops Q S fuel (RV.setIfInBounds (ops.size - (fuel+1)) true) (a' r))
  (hn:n≤1000:=by omega) (hi:ops[ops.size - (fuel+1)]? =o_ oi:=by rfl) (hd:oi.dst=o_ d:=by rfl) (ho:oi.op= .binOp .add T x y abH:=by rfl) (hx:a.eval x=t_ u:=by rfl) (hy:a.eval y=t_ v:=by rfl) (hc:Jj md ops RV (ops.size - (fuel+1)) oi (o_ d)=true:=by kernel_rfl)
  (hQ: ∀ c a w,Q (.panic c) (a.put (o_ d) (t_ (u ++ v))) w→Q (.panic c) a w:=by exact fun _ _ _ h=>h) (hw:Region.wanted oi (yielded ops a.tmps)=true:=by kernel_rfl) (ha: ∀ r,a.put (o_ d) (t_ r)=a' r:=by intro r; simp only [pt,sb,s0,s1]; rfl):gR P md ops Q S (fuel+1) RV a:=
 yl (fun w _=>Pl ho hx hy (by omega) w) (by rw [ha]; exact h _ rfl (by rw [QH]; omega)) hi hd hc hQ hw
theorem y7 (n:Nat) (hu:u.size≤2000000000000 * n) (h: ∀ r:ByteArray,Hid (r=u ++ v)→r.size≤2000000000000 * (n+1)→gR P md ops Q S fuel (RV.setIfInBounds (ops.size - (fuel+1)) true) (a' r))
  (hn:n≤1000:=by omega) (hi:ops[ops.size - (fuel+1)]? =o_ oi:=by rfl) (hd:oi.dst=o_ d:=by rfl) (ho:oi.op= .binOp .add T x (.const (t_ v)) abH:=by rfl) (hx:a.eval x=t_ u:=by rfl) (hv:v.size≤2000000000000:=by decide) (hc:Jj md ops RV (ops.size - (fuel+1)) oi (o_ d)=true:=by kernel_rfl)
  (hQ: ∀ c a w,Q (.panic c) (a.put (o_ d) (t_ (u ++ v))) w→Q (.panic c) a w:=by exact fun _ _ _ h=>h) (hw:Region.wanted oi (yielded ops a.tmps)=true:=by kernel_rfl) (ha: ∀ r,a.put (o_ d) (t_ r)=a' r:=by intro r; simp only [pt,sb,s0,s1]; rfl):gR P md ops Q S (fuel+1) RV a:=
 ad n hu hv h hn hi hd ho hx rfl hc hQ hw ha
theorem b9 (v:ByteArray) (f:FuncId) (KS:Array v_) (hf: ∀ w,S w→k_ P f KS w (fun e w'=>e=r_ (t_ v)∧S w')) (h:gR P md ops Q S fuel (RV.setIfInBounds (ops.size - (fuel+1)) true) (a' v))
  (hi:ops[ops.size - (fuel+1)]? =o_ oi:=by rfl) (hd:oi.dst=o_ d:=by rfl) (hy: ∀ w,S w→(execOp a.eval oi).run P w= .ok (.enter f KS) w:=by intro w0 hS0; go_simp) (hc:Jj md ops RV (ops.size - (fuel+1)) oi (o_ d)=true:=by kernel_rfl)
  (hQ: ∀ c a w,Q (.panic c) (a.put (o_ d) (t_ v)) w→Q (.panic c) a w:=by exact fun _ _ _ h=>h) (hw:Region.wanted oi (yielded ops a.tmps)=true:=by kernel_rfl) (ha: ∀ r,a.put (o_ d) (t_ r)=a' r:=by intro r; simp only [pt,sb,s0,s1]; rfl):gR P md ops Q S (fuel+1) RV a:=
 cl (t_ v) f KS hy hf Zdh hi hd hc hQ hw
end
theorem MM (b:Bool): -9999999999≤MJ b∧MJ b≤9999999999:=by cases b <;> decide
def Pj (_w:w_) (x:bD):Prop:=(∀ n∈ [x.id,x.n,x.max],-9999999999≤n∧n≤9999999999)
def OB (_w:w_) (x:aB):Prop:=(∀ n∈ [x.id,MJ x.up],-9999999999≤n∧n≤9999999999)
def OC (_w:w_) (x:az):Prop:=(∀ n∈ [x.id,MJ x.shown],-9999999999≤n∧n≤9999999999)∧x.text.size≤1048576
def N6 (w:w_) (x:au):Prop:=(∀ n∈ [x.id,x.max],-9999999999≤n∧n≤9999999999)∧x.Ma.length≤1048576∧(∀ s∈x.Ma,s.size≤1048576)∧Row w x.ak (bT.flat x.Ma)
def O5 (w:w_) (x:aM):Prop:=(∀ n∈ [x.id,MJ x.I,MJ x.Mf,x.max],-9999999999≤n∧n≤9999999999)∧x.Ma.length≤1048576∧(∀ s∈x.Ma,s.size≤1048576)∧Row w x.ak (bT.flat x.Ma)
def O0 (w:w_) (x:ao):Prop:=(∀ n∈ [x.id,x.RX,x.Md,x.pc,x.left,x.Mg,x.on,x.code,x.RU],-9999999999≤n∧n≤9999999999)∧0 < x.prog.length∧x.dX∧Row w x.aY (fk.flat x.prog)
theorem Nh {s:ByteArray} (h:bI s=true):s.size=0:=by
 have h1:s.toList= [] :=by simpa [bI] using h
 have h2:s.toList.length=s.size:=by rw [PQ]; simp
 rw [h1] at h2;exact h2.symm
theorem M5 {s:ByteArray} (h:bw s=true):s.size≤20:=by
 simp only [bw,J7,decide_eq_true_iff] at h;exact h.1
theorem OJ {k n m:Int} {s:ByteArray} (h:mQ k n m s=true):n≤1000∧s.size≤20:=by
 unfold mQ at h
 split at h
 ·simp only [J7,bz] at h
  have:=Nh h.2
  omega
 split at h
 ·simp only [J7,bz] at h
  have:=Nh h.2
  omega
 split at h
 ·simp only [J7,bz] at h
  have:=M5 h.2
  omega
 split at h
 ·simp only [J7,bz] at h
  have:=M5 h.2
  omega
 split at h
 ·simp only [J7,decide_eq_true_iff] at h
  have:=Nh h.2
  omega
 ·cases h
theorem NB {l:List dN} (h:jm l=true):0 < l.length∧l.length≤20∧ ∀ o∈l,o.2.1≤1000∧o.2.2.2.size≤20:=by
 have h1:=MU h;refine ⟨h1.1,h1.2.1,fun o ho=> ?_⟩;obtain ⟨i,hi,rfl⟩:=List.mem_iff_getElem.1 ho;have h2:=OJ (h1.2.2 i hi);simpa [Cg,Ce,Kz hi] using h2
theorem has_in {p:aE} (h:aQ p) {s i:Int} (hb:hasB p s i=true):1≤i∧i≤1000:=by
 unfold hasB at hb
 split at hb
 ·obtain ⟨x,hx,rfl⟩:=Lr.1 (of_decide_eq_true hb)
  exact bz.1 (cK h.aj x hx).1
 split at hb
 ·obtain ⟨x,hx,rfl⟩:=Lr.1 (of_decide_eq_true hb)
  exact bz.1 (cK h.L9 x hx).1
 split at hb
 ·obtain ⟨x,hx,rfl⟩:=Lr.1 (of_decide_eq_true hb)
  exact bz.1 (cK h.ae x hx).1
 split at hb
 ·obtain ⟨x,hx,rfl⟩:=Lr.1 (of_decide_eq_true hb)
  exact bz.1 (cK h.ag x hx).1
 ·cases hb
theorem Ns {l:List ByteArray} {m:Int} (h:dJ l m=true) (hm:m≤5):l.length≤1048576∧ ∀ s∈l,s.size≤1048576:=by
 simp only [dJ,J7,decide_eq_true_iff,List.all_eq_true] at h;exact ⟨by omega,fun s hs=>by have:=M5 (h.1 s hs); omega⟩
theorem O2 {p:aE} (h:aQ p) (w:w_) {x:bD} (hx:x∈p.aj):Pj w x:=by
 have h1:=cK h.aj x hx;simp only [gw,J7,bz] at h1;intro n hn;exact ZaW
theorem Oi {p:aE} (h:aQ p) (w:w_) {x:aB} (hx:x∈p.L9):OB w x:=by
 have h1:=bz.1 (cK h.L9 x hx).1;have h2:=MM x.up;intro n hn;exact ZaW
theorem N9 {p:aE} (h:aQ p) (w:w_) {x:az} (hx:x∈p.ag):OC w x:=by
 have h1:=cK h.ag x hx;simp only [cU,J7,bz] at h1;have h2:=MM x.shown;have h3:=M5 h1.2.1;refine ⟨fun n hn=> ?_,by omega⟩;exact ZaW
theorem N3 {p:aE} (h:aQ p) {w:w_} {x:au} (hx:x.toci∈p.ae) (hr:Row w x.ak (bT.flat x.Ma)):N6 w x:=by
 have h1:=cK h.ae x.toci hx;simp only [ct,J7,bz] at h1;have h3:=Ns h1.2.2 (by omega);refine ⟨fun n hn=> ?_,h3.1,h3.2,hr⟩;exact ZaW
theorem OA {p:aE} (h:aQ p) {w:w_} {x:aM} (hx:x.todS∈p.ai) (hr:Row w x.ak (bT.flat x.Ma)):O5 w x:=by
 have h1:=cK h.ai x.todS hx;simp only [dj,J7,bz] at h1;have h3:=Ns h1.2.2 (by omega);have h4:=MM x.I;have h5:=MM x.Mf;refine ⟨fun n hn=> ?_,h3.1,h3.2,hr⟩;exact ZaW
theorem Oj {x:aD} (h:bO x=true) (hp:jm x.prog=true):0≤x.Md∧x.Md≤7∧0≤x.pc∧x.pc≤20∧0≤x.left∧x.left≤1000∧ -1≤x.Mg∧x.Mg≤2000000000∧(x.Md < 3→x.on=0)∧(x.Md=0→x.RU=0):=by
 have hl:=NB hp;unfold bO at h
 split at h
 ·simp only [J7,decide_eq_true_iff] at h
  omega
 split at h
 ·simp only [J7,decide_eq_true_iff,dU,bz,jJ] at h
  have h5:0≤x.left∧x.left≤1000:=by
   have h6:=h.1.1.1.2
   split at h6
   ·simp only [J7,decide_eq_true_iff] at h6
    have h7:(opAt x).2.1≤1000:=by
     have h8:x.pc.toNat < x.prog.length:=by omega
     unfold opAt;rw [Kz h8];exact (hl.2.2 _ (List.getElem_mem h8)).1
    omega
   ·have:=of_decide_eq_true h6
    omega
  omega
 split at h
 ·simp only [J7,decide_eq_true_iff,dU,bz] at h
  omega
 split at h
 ·simp only [J7,Kb,decide_eq_true_iff,dU,bz,lh] at h
  omega
 split at h
 ·simp only [J7,Kb,decide_eq_true_iff,dU,bz,lh] at h
  omega
 ·cases h
theorem Oy {p:aE} (h:aQ p) {w:w_} {x:ao} (hx:x.toaD∈p.L8) (hr:Row w x.aY (fk.flat x.prog)):O0 w x:=by
 have h1:=cK h.L8 x.toaD hx;simp only [cH,J7,bz,fF,dG,Kb,decide_eq_true_iff] at h1;have hn:=bz.1 h.next;have hp:=NB h1.2.1.1.1.1.1.1.2;have hs:=Oj h1.2.1.1.2 h1.2.1.1.1.1.1.1.2;have h3:=M5 h1.2.1.1.1.1.1.2;have h4:=M5 h1.2.1.1.1.1.2;have ho: -9999999999≤x.on∧x.on≤9999999999:=by
  have h5:=h1.2.2
  split at h5
  ·have:=has_in h h5
   omega
  ·have:=hs.2.2.2.2.2.2.2.2.1 (by omega)
   omega
 refine ⟨fun n hn=> ?_,hp.1,⟨by omega,fun o ho=>by have:=(hp.2.2 o ho).2; omega,by omega,by omega⟩,hr⟩;exact ZaW
end
section
open Go.RowKit
theorem qZ (g j:Nat):(⟨g,0,n_⟩:d_).add j=⟨g,j,n_⟩:=by unfold Addr.add; split <;> simp_all
theorem sZ {P:Program} (w:w_) (t ty e:T_) (i:TypeInfo) (z:v_) (size bytes:Nat) (ht:P.underlying t=o_ (.slice e)) (hi:P.info? e=o_ i) (hz:i.zero=o_ z)
  (hsize:i.size=size) (hby:i.bytes=bytes) (hzs:z.cells.size=size) (hsz:0 < size) (a:Option d_) (n cap:Nat) (xs:List v_) (h:Row w a xs) (hl:xs.length=n * size) (h1: ∀ u∈xs,u.oneCell'=true)
  (h63:n≤1048576) (hb:bytes≤1000):
  ∃ a' cap' w',(Builtin.append_ #[t,t] ty #[s_ n_ 0 0,s_ a n cap]).run P w= .ok (s_ a' n cap') w'∧w'.ownsRow w.heap.size e size (s_ a' n cap') n xs∧w.grownBy w' n_:=by
 cases a with
 | none=>
  have hx:xs= [] :=by
   exact ZbV
  subst hx;have hn:n=0:=by
   cases n with
   | zero=>rfl
   | succ n=>simp only [List.length_nil,Nat.succ_mul] at hl; omega
  subst hn;refine ⟨n_,0,w,?_,Ke _ _ _ _,⟨rfl,rfl,rfl,Ki _,fun _ _ _=>rfl⟩⟩;simp [Builtin.append_,run_underlying ht,sizeOf,typeInfo,hi,Builtin.lenOf,Builtin.firstCells]
 | some ad=>
  have hnews: ∀ j u,xs[j]? =o_ u→w.cell? (ad.add j)=o_ u:=fun j u hu=>by
   obtain ⟨g,e',hc⟩:=h j u hu;cases e';rw [qZ];exact hc
  obtain ⟨v',w',hr,ho,hg,-,-⟩:=run_append_own_at (P:=P) w w.heap.size t ty e i z size bytes ht hi hz hsize hby hzs hsz (s_ n_ 0 0) 0 [] (Ke _ _ _ _) ad n cap xs hl hnews h1 ZcL (by rw [Li]; have:=Nat.mul_le_mul h63 hb; omega) (Ki _);simp only [Li,List.nil_append] at ho;obtain ⟨a',cap',rfl,-⟩:=cr ho;exact ⟨a',cap',w',hr,ho,hg⟩
end
section
open Go.RowKit
attribute [local go_sem ↓] Kc Kd
theorem BF {w w':w_} {o X:Nat} {q:ol} {x:ao} {ms me mb mf:df} (h:fu w w' o X q x ms me mb mf):(w'.cell? ⟨o,4,n_⟩=o_ (i_ j_ 5)∧w'.cell? ⟨o,5,n_⟩=o_ (.map (o_ q.bs))∧w'.cell? ⟨X,7,n_⟩=o_ (i_ j_ x.on))∧Hid (fu w w' o X q x ms me mb mf):=
 ⟨⟨h.opn.cell 4,h.opn.cell 5,(bo h.box).2.2.2.2.2.2.2.1⟩,h⟩
theorem ER (o X:Nat) (q:ol) (x:ao) (ms me mb mf:df) (w:w_) (h:fu w w o X q x ms me mb mf) (hw:(Lit.int j_ x.on).wf=true) (hs:x.Md=3):
  k_ J3 83 #[p_ (o_ ⟨o,0,n_⟩),p_ (o_ ⟨X,0,n_⟩)] w fun e w'=>e=r_ (b_ (fw ms me mb mf x))∧B_ w.heap.size w w':=by
 have H:Hid (fu w w o X q x ms me mb mf):=h;have HW:Hid ((Lit.int j_ x.on).wf=true):=hw;have HV:Hid (fw ms me mb mf x=(cz ms x.on).isSome):=by show fw ms me mb mf x=_; simp [fw,hs]
 have k3:w.cell? ⟨X,3,n_⟩=o_ (i_ j_ 3):=by rw [(bo h.box).2.2.2.1,hs]
 clear h hw hs
 go_enter func83,ntmps83
 go_wp2_with fail;clear k3;refine aT (fun w'=>(w'.cell? ⟨o,4,n_⟩=o_ (i_ j_ 5)∧w'.cell? ⟨o,5,n_⟩=o_ (.map (o_ q.bs))∧w'.cell? ⟨X,7,n_⟩=o_ (i_ j_ x.on))∧Hid (fu w w' o X q x ms me mb mf)) ZcI (BF H.I.drew) ?_
 iterate 8 (refine PI ?_)
 refine cl (b_ (cz ms x.on).isSome) 77 #[a_ #[i_ j_ 5,.map (o_ q.bs)],i_ j_ x.on] ?_ ?_ ?_
 ·exact Zco
 ·intro w0 hS0
  refine (tZ 5 q.bs ms x.on w0 hS0.2.I.ms HW.I).mono ?_;rintro e w2 ⟨rfl,hb2⟩;exact ⟨rfl,BF (hS0.2.I.below hb2)⟩
 exact A_
theorem A5 {w w':w_} {o X:Nat} {q:ol} {x:ao} {ms me mb mf:df} (h:fu w w' o X q x ms me mb mf):(w'.cell? ⟨o,6,n_⟩=o_ (i_ j_ 5)∧w'.cell? ⟨o,7,n_⟩=o_ (.map (o_ q.be))∧w'.cell? ⟨X,7,n_⟩=o_ (i_ j_ x.on))∧Hid (fu w w' o X q x ms me mb mf):=
 ⟨⟨h.opn.cell 6,h.opn.cell 7,(bo h.box).2.2.2.2.2.2.2.1⟩,h⟩
theorem EH (o X:Nat) (q:ol) (x:ao) (ms me mb mf:df) (w:w_) (h:fu w w o X q x ms me mb mf) (hw:(Lit.int j_ x.on).wf=true) (hs:x.Md=4):
  k_ J3 83 #[p_ (o_ ⟨o,0,n_⟩),p_ (o_ ⟨X,0,n_⟩)] w fun e w'=>e=r_ (b_ (fw ms me mb mf x))∧B_ w.heap.size w w':=by
 have H:Hid (fu w w o X q x ms me mb mf):=h;have HW:Hid ((Lit.int j_ x.on).wf=true):=hw;have HV:Hid (fw ms me mb mf x=(cz me x.on).isSome):=by show fw ms me mb mf x=_; simp [fw,hs]
 have k3:w.cell? ⟨X,3,n_⟩=o_ (i_ j_ 4):=by rw [(bo h.box).2.2.2.1,hs]
 clear h hw hs
 go_enter func83,ntmps83
 go_wp2_with fail;clear k3;refine aT (fun w'=>(w'.cell? ⟨o,6,n_⟩=o_ (i_ j_ 5)∧w'.cell? ⟨o,7,n_⟩=o_ (.map (o_ q.be))∧w'.cell? ⟨X,7,n_⟩=o_ (i_ j_ x.on))∧Hid (fu w w' o X q x ms me mb mf)) ZcI (A5 H.I.drew) ?_
 iterate 8 (refine PI ?_)
 refine cl (b_ (cz me x.on).isSome) 112 #[a_ #[i_ j_ 5,.map (o_ q.be)],i_ j_ x.on] ?_ ?_ ?_
 ·exact Zco
 ·intro w0 hS0
  refine (rj 5 q.be me x.on w0 hS0.2.I.me HW.I).mono ?_;rintro e w2 ⟨rfl,hb2⟩;exact ⟨rfl,A5 (hS0.2.I.below hb2)⟩
 exact A_
theorem AF {w w':w_} {o X:Nat} {q:ol} {x:ao} {ms me mb mf:df} (h:fu w w' o X q x ms me mb mf):(w'.cell? ⟨o,10,n_⟩=o_ (i_ j_ 5)∧w'.cell? ⟨o,11,n_⟩=o_ (.map (o_ q.bf))∧w'.cell? ⟨X,7,n_⟩=o_ (i_ j_ x.on))∧Hid (fu w w' o X q x ms me mb mf):=
 ⟨⟨h.opn.cell 10,h.opn.cell 11,(bo h.box).2.2.2.2.2.2.2.1⟩,h⟩
theorem Fu (o X:Nat) (q:ol) (x:ao) (ms me mb mf:df) (w:w_) (h:fu w w o X q x ms me mb mf) (hw:(Lit.int j_ x.on).wf=true) (hs:x.Md=5):
  k_ J3 83 #[p_ (o_ ⟨o,0,n_⟩),p_ (o_ ⟨X,0,n_⟩)] w fun e w'=>e=r_ (b_ (fw ms me mb mf x))∧B_ w.heap.size w w':=by
 have H:Hid (fu w w o X q x ms me mb mf):=h;have HW:Hid ((Lit.int j_ x.on).wf=true):=hw;have HV:Hid (fw ms me mb mf x=(cz mf x.on).isSome):=by show fw ms me mb mf x=_; simp [fw,hs]
 have k3:w.cell? ⟨X,3,n_⟩=o_ (i_ j_ 5):=by rw [(bo h.box).2.2.2.1,hs]
 clear h hw hs
 go_enter func83,ntmps83
 go_wp2_with fail;clear k3;refine aT (fun w'=>(w'.cell? ⟨o,10,n_⟩=o_ (i_ j_ 5)∧w'.cell? ⟨o,11,n_⟩=o_ (.map (o_ q.bf))∧w'.cell? ⟨X,7,n_⟩=o_ (i_ j_ x.on))∧Hid (fu w w' o X q x ms me mb mf)) ZcI (AF H.I.drew) ?_
 iterate 8 (refine PI ?_)
 refine cl (b_ (cz mf x.on).isSome) 78 #[a_ #[i_ j_ 5,.map (o_ q.bf)],i_ j_ x.on] ?_ ?_ ?_
 ·exact Zco
 ·intro w0 hS0
  refine (mE 5 q.bf mf x.on w0 hS0.2.I.mf HW.I).mono ?_;rintro e w2 ⟨rfl,hb2⟩;exact ⟨rfl,AF (hS0.2.I.below hb2)⟩
 exact A_
theorem AH {w w':w_} {o X:Nat} {q:ol} {x:ao} {ms me mb mf:df} (h:fu w w' o X q x ms me mb mf):(w'.cell? ⟨o,10,n_⟩=o_ (i_ j_ 5)∧w'.cell? ⟨o,11,n_⟩=o_ (.map (o_ q.bf))∧w'.cell? ⟨X,7,n_⟩=o_ (i_ j_ x.on))∧Hid (fu w w' o X q x ms me mb mf):=
 ⟨⟨h.opn.cell 10,h.opn.cell 11,(bo h.box).2.2.2.2.2.2.2.1⟩,h⟩
theorem Ew (o X:Nat) (q:ol) (x:ao) (ms me mb mf:df) (w:w_) (h:fu w w o X q x ms me mb mf) (hw:(Lit.int j_ x.on).wf=true) (hs:x.Md=6):
  k_ J3 83 #[p_ (o_ ⟨o,0,n_⟩),p_ (o_ ⟨X,0,n_⟩)] w fun e w'=>e=r_ (b_ (fw ms me mb mf x))∧B_ w.heap.size w w':=by
 have H:Hid (fu w w o X q x ms me mb mf):=h;have HW:Hid ((Lit.int j_ x.on).wf=true):=hw;have HV:Hid (fw ms me mb mf x=(cz mf x.on).isSome):=by show fw ms me mb mf x=_; simp [fw,hs]
 have k3:w.cell? ⟨X,3,n_⟩=o_ (i_ j_ 6):=by rw [(bo h.box).2.2.2.1,hs]
 clear h hw hs
 go_enter func83,ntmps83
 go_wp2_with fail;clear k3;refine aT (fun w'=>(w'.cell? ⟨o,10,n_⟩=o_ (i_ j_ 5)∧w'.cell? ⟨o,11,n_⟩=o_ (.map (o_ q.bf))∧w'.cell? ⟨X,7,n_⟩=o_ (i_ j_ x.on))∧Hid (fu w w' o X q x ms me mb mf)) ZcI (AH H.I.drew) ?_
 iterate 8 (refine PI ?_)
 refine cl (b_ (cz mf x.on).isSome) 78 #[a_ #[i_ j_ 5,.map (o_ q.bf)],i_ j_ x.on] ?_ ?_ ?_
 ·exact Zco
 ·intro w0 hS0
  refine (mE 5 q.bf mf x.on w0 hS0.2.I.mf HW.I).mono ?_;rintro e w2 ⟨rfl,hb2⟩;exact ⟨rfl,AH (hS0.2.I.below hb2)⟩
 exact A_
theorem Bi {w w':w_} {o X:Nat} {q:ol} {x:ao} {ms me mb mf:df} (h:fu w w' o X q x ms me mb mf):(w'.cell? ⟨o,8,n_⟩=o_ (i_ j_ 5)∧w'.cell? ⟨o,9,n_⟩=o_ (.map (o_ q.bb))∧w'.cell? ⟨X,7,n_⟩=o_ (i_ j_ x.on))∧Hid (fu w w' o X q x ms me mb mf):=
 ⟨⟨h.opn.cell 8,h.opn.cell 9,(bo h.box).2.2.2.2.2.2.2.1⟩,h⟩
theorem Fb (o X:Nat) (q:ol) (x:ao) (ms me mb mf:df) (w:w_) (h:fu w w o X q x ms me mb mf) (hw:(Lit.int j_ x.on).wf=true) (hs:x.Md=7):
  k_ J3 83 #[p_ (o_ ⟨o,0,n_⟩),p_ (o_ ⟨X,0,n_⟩)] w fun e w'=>e=r_ (b_ (fw ms me mb mf x))∧B_ w.heap.size w w':=by
 have H:Hid (fu w w o X q x ms me mb mf):=h;have HW:Hid ((Lit.int j_ x.on).wf=true):=hw;have HV:Hid (fw ms me mb mf x=(cz mb x.on).isSome):=by show fw ms me mb mf x=_; simp [fw,hs]
 have k3:w.cell? ⟨X,3,n_⟩=o_ (i_ j_ 7):=by rw [(bo h.box).2.2.2.1,hs]
 clear h hw hs
 go_enter func83,ntmps83
 go_wp2_with fail;clear k3;refine aT (fun w'=>(w'.cell? ⟨o,8,n_⟩=o_ (i_ j_ 5)∧w'.cell? ⟨o,9,n_⟩=o_ (.map (o_ q.bb))∧w'.cell? ⟨X,7,n_⟩=o_ (i_ j_ x.on))∧Hid (fu w w' o X q x ms me mb mf)) ZcI (Bi H.I.drew) ?_
 iterate 8 (refine PI ?_)
 refine cl (b_ (cz mb x.on).isSome) 113 #[a_ #[i_ j_ 5,.map (o_ q.bb)],i_ j_ x.on] ?_ ?_ ?_
 ·exact Zco
 ·intro w0 hS0
  refine (qM 5 q.bb mb x.on w0 hS0.2.I.mb HW.I).mono ?_;rintro e w2 ⟨rfl,hb2⟩;exact ⟨rfl,Bi (hS0.2.I.below hb2)⟩
 exact A_
theorem zh (o X:Nat) (q:ol) (x:ao) (ms me mb mf:df) (w:w_) (h:fu w w o X q x ms me mb mf) (h3: ¬ x.Md=3) (h4: ¬ x.Md=4) (h5: ¬ x.Md=5) (h6: ¬ x.Md=6) (h7: ¬ x.Md=7):
  k_ J3 83 #[p_ (o_ ⟨o,0,n_⟩),p_ (o_ ⟨X,0,n_⟩)] w fun e w'=>e=r_ (b_ (fw ms me mb mf x))∧B_ w.heap.size w w':=by
 have HV:Hid (fw ms me mb mf x=true):=by show fw ms me mb mf x=true; simp [fw,h3,h4,h5,h6,h7]
 have k3:=(bo h.box).2.2.2.1;have s3:(x.Md == 3)=false:=by simp [h3]
 have s4:(x.Md == 4)=false:=by simp [h4]
 have s5:(x.Md == 5)=false:=by simp [h5]
 have s6:(x.Md == 6)=false:=by simp [h6]
 have s7:(x.Md == 7)=false:=by simp [h7]
 clear h h3 h4 h5 h6 h7
 go_enter func83,ntmps83
 go_wp2;go_ret;exact ⟨al HV.I.symm,Kp _ _⟩
theorem Ak (o X:Nat) (q:ol) (x:ao) (ms me mb mf:df) (w:w_) (h:fu w w o X q x ms me mb mf) (hw:(Lit.int j_ x.on).wf=true):
  k_ J3 83 #[p_ (o_ ⟨o,0,n_⟩),p_ (o_ ⟨X,0,n_⟩)] w fun e w'=>e=r_ (b_ (fw ms me mb mf x))∧B_ w.heap.size w w':=by
 by_cases h3:x.Md=3
 ·exact ER o X q x ms me mb mf w h hw h3
 by_cases h4:x.Md=4
 ·exact EH o X q x ms me mb mf w h hw h4
 by_cases h5:x.Md=5
 ·exact Fu o X q x ms me mb mf w h hw h5
 by_cases h6:x.Md=6
 ·exact Ew o X q x ms me mb mf w h hw h6
 by_cases h7:x.Md=7
 ·exact Fb o X q x ms me mb mf w h hw h7
 exact zh o X q x ms me mb mf w h h3 h4 h5 h6 h7
end
section
open Go.RowKit
theorem wo (x:ao) (w:w_) (hf:eL w x):k_ J3 232 #[a_ (aX x)] w fun e w'=>e=r_ (b_ (cH x.toaD))∧B_ w.heap.size w w':=by
 have HI:Hid (oV w (w.alloc (c_ (aX x) 44)) x):=oV.start hf;have HE:Hid (cH x.toaD=(cv x.RX 1 50 && jm x.prog && bw x.held && bw x.got && cv x.code 0 3 && bO x.toaD)):=rfl;have HB:Hid (B_ w.heap.size w (w.alloc (c_ (aX x) 44))):=HI.I.cd;obtain ⟨c0,c1,c2,c3,c4,c5,c6,c7,c8,c9,qF,pe⟩:=bo HI.I.box;clear hf;unfold aX at *;by_cases h1:1≤x.RX;rotate_left
 ·have HV:Hid (cH x.toaD=false):=by show cH _=false; rw [HE.I,mA (by omega)]; rfl
  exact ZbW
 by_cases h2:x.RX≤50;rotate_left
 ·have HV:Hid (cH x.toaD=false):=by show cH _=false; rw [HE.I,kR (by omega)]; rfl
  exact ZbW
 have HP:Hid (cv x.RX 1 50=true):=eB h1 h2
 go_enter func232,ntmps232
 go_wp2_with fail;refine (wI x.aY x.prog x.bH _ HI.I.fit.1.prog HI.I.fit.1.ops HI.I.fit.2).mono ?_;rintro e w1 ⟨rfl,hb1⟩;have Hs:Hid (oV w w1 x):=HI.I.below hb1;clear hb1 c0 c1 c2 c3 c4 c5 c6 c7 c8 c9 qF pe HI HB;obtain ⟨c0,c1,c2,c3,c4,c5,c6,c7,c8,c9,qF,pe⟩:=bo Hs.I.box;have hsh:=Hs.I.fit.1.held;have hsg:=Hs.I.fit.1.got;cases hl:jm x.prog with
 | false=>
  have HV:Hid (cH x.toaD=false):=by show cH _=false; rw [HE.I,hl]; simp
  clear HE hl;exact ZaU
 | true=>
  have HL:Hid (jm x.prog=true):=hl;clear hl;go_wp2_with fail;refine (iM x.held _ hsh).mono ?_;rintro e w2 ⟨rfl,hw2⟩;subst hw2;cases hh:bw x.held with
  | false=>
   have HV:Hid (cH x.toaD=false):=by show cH _=false; rw [HE.I,hh]; simp
   clear HE hh;exact ZaU
  | true=>
   have HH:Hid (bw x.held=true):=hh;clear hh;go_wp2_with fail;refine (iM x.got _ hsg).mono ?_;rintro e w2 ⟨rfl,hw2⟩;subst hw2;cases hg:bw x.got with
   | false=>
    have HV:Hid (cH x.toaD=false):=by show cH _=false; rw [HE.I,hg]; simp
    clear HE hg;exact ZaU
   | true=>
    have HG:Hid (bw x.got=true):=hg;clear hg;by_cases h3:0≤x.code;rotate_left
    ·have HV:Hid (cH x.toaD=false):=by show cH _=false; rw [HE.I,mA (n:=x.code) (by omega)]; simp
     clear HE;exact ZaU
    by_cases h4:x.code≤3;rotate_left
    ·have HV:Hid (cH x.toaD=false):=by show cH _=false; rw [HE.I,kR (n:=x.code) (by omega)]; simp
     clear HE;exact ZaU
    have HC:Hid (cv x.code 0 3=true):=eB h3 h4;go_wp2_with fail;refine (Am x _ Hs.I.fit).mono ?_;rintro e w2 ⟨rfl,hb2⟩;have jA:Hid (oV w w2 x):=Hs.I.below hb2;clear hb2;have HV:Hid (cH x.toaD=bO x.toaD):=by show cH _=_; rw [HE.I,HP.I,HL.I,HH.I,HG.I,HC.I]; simp
    clear HE;go_wp2;go_ret;exact ⟨al HV.I.symm,jA.I.cd⟩
end
section
open Go.RowKit
attribute [local go_sem ↓] Kc Kd
def IW (w:w_) (Me:Int) (list:List bD) (k:Nat) (wr:w_):Prop:=
 ∃ l:List (bD × Nat),l.map (·.1)=list.take k∧eS eH (fun x:bD=>x.id) 59 78 w wr Me l∧aw (fun x:bD=>x.id) (fun x:bD=>gw x) 0 (list.take k)=true∧(k:Int)≤max Me 0
theorem vV (a:Option d_) (list:List bD) (cap:Nat) (Me:Int) (w:w_) (hl:list.length≤1048576) (h:dm.bU w a list) (hf: ∀ x∈list,kU w x) (hw: ∀ x∈list,(Lit.int j_ x.id).wf=true):
  k_ J3 44 #[s_ a list.length cap,i_ j_ Me] w fun e w'=>jN eH (fun x:bD=>x.id) 59 w Me (aw (fun x:bD=>x.id) (fun x:bD=>gw x) 0 list && decide ((list.length:Int)≤max Me 0)) list e w':=by
 have hmk:=P4 (P:=J3) 76;have hmn:=pb;have H0:Hid (eS eH (fun x:bD=>x.id) 59 78 w (((w.alloc (c_ #[i_ j_ 0,.map n_] 78)).alloc (.map #[] 0)).alloc (c_ #[i_ j_ Me,.map (o_ (w.heap.size+1))] 78)) Me []):=eS.start 78 w Me;have HL:Hid (dm.bU w a list∧(∀ x∈list,kU w x)∧ ∀ x∈list,(Lit.int j_ x.id).wf=true):=⟨h,hf,hw⟩
 clear h hf hw
 go_enter func44,ntmps44
 go_wp2_with fail
 go_loopw [7,15] (fun last i wr=> ∃ k:Nat,k≤list.length∧i=i_ j_ k∧last=i_ j_ (bW (fun x:bD=>x.id) 0 (list.take k))∧Hid (IW w Me list k wr)) (fun _ i _=>list.length - (intOf i).toNat)
 case atStart=>exact ⟨0,Ky _,rfl,rfl,⟨[],by simp,H0.I,rfl,by simp; omega⟩⟩
 case round=>
  clear H0 hmk;obtain ⟨k,hk,rfl,rfl,HA⟩:=hrel;obtain ⟨l,hlm,hin,oC,hkm⟩:=HA.I;have HT:Hid (l.map (·.1)=list.take k∧aw (fun x:bD=>x.id) (fun x:bD=>gw x) 0 (list.take k)=true∧(k:Int)≤max Me 0):=⟨hlm,oC,hkm⟩
  have HI:Hid (eS eH (fun x:bD=>x.id) 59 78 w wr Me l):=hin;clear HA hlm hin oC hkm;by_cases hlt:k < list.length
  ·have i0:(0:Int)≤(k:Int):=by omega
   have i1:(k:Int) < (list.length:Int):=by omega
   obtain ⟨x,hx⟩: ∃ x,list[k]? =o_ x:=⟨_,Kz hlt⟩
   have hmem:=KA hx;have HX:Hid (list[k]? =o_ x):=hx;have HF:Hid (kU w x∧(Lit.int j_ x.id).wf=true):=⟨HL.I.2.1 x hmem,HL.I.2.2 x hmem⟩
   obtain ⟨gs,ha,hat⟩:=lQ (HL.I.1.below HI.I.cd) hx;obtain ⟨c0,c1,c2⟩:=hat;subst ha;clear hx hmem;go_wp2_with fail;refine (jv x _).mono ?_;rintro e w2 ⟨rfl,hb2⟩;have jA:Hid (eS eH (fun x:bD=>x.id) 59 78 w w2 Me l):=(HI.I.below ((Kp _ wr).alloc (Ki _) (c_ #[i_ j_ x.id,i_ j_ x.n,i_ j_ x.max] 59))).below hb2;have HB:Hid (w2.heap[wr.heap.size]? =o_ (c_ (eH x) 59)):=(hb2.block _ (by simp)).trans (Kj _ _);have HZ:Hid (w.heap.size+1 < wr.heap.size):=by show w.heap.size+1 < wr.heap.size; have:=(J2.1 HI.I.var).1; omega
   clear hb2 HI c0 c1 c2;obtain ⟨d0,d1,d2⟩:=gm HB.I;obtain ⟨r0,r1,v0,v1,z0,z1⟩:=jA.I.cells;by_cases hle:x.id≤bW (fun x:bD=>x.id) 0 (list.take k)
   ·have HN:Hid ((aw (fun x:bD=>x.id) (fun x:bD=>gw x) 0 list && decide ((list.length:Int)≤max Me 0))=false):=by
     show _=false
     rw [bS HX.I (fun hh=>absurd hh.2.1 (by show ¬ bW (fun x:bD=>x.id) 0 (list.take k) < x.id; omega))]; rfl
    go_wp2;refine KT (v:=u_ #[a_ #[i_ j_ 0,.map n_],b_ false]) Zdu rfl ?_;exact Zas
   have j6:Hid (bW (fun x:bD=>x.id) 0 (list.take k) < x.id):=by show _ < _; omega
   have hkl:(RW (fun x:bD=>x.id) l).length≤1048576:=by
    exact Q3
   go_wp2_with fail;refine (tU Me (w.heap.size+1) (RW (fun x:bD=>x.id) l) x w2 jA.I.eh.map HF.I.2 hkl (HF.I.1.below jA.I.cd)).mono ?_;rintro e w3 ⟨rfl,hno,fm⟩;cases fW:iI Me (RW (fun x:bD=>x.id) l) x.id (gw x) with
   | false=>
    have HN:Hid ((aw (fun x:bD=>x.id) (fun x:bD=>gw x) 0 list && decide ((list.length:Int)≤max Me 0))=false):=iC HX.I HT.I.1 HT.I.2.1 j6.I fW;have Aw:Hid (eS eH (fun x:bD=>x.id) 59 78 w w3 Me l):=jA.I.below (hno fW);clear hno fm fW jA r0 r1 v0 v1 z0 z1 d0 d1 d2 HB;obtain ⟨r0,r1,v0,v1,z0,z1⟩:=Aw.I.cells;go_wp2;refine KT (v:=u_ #[a_ #[i_ j_ 0,.map n_],b_ false]) Zdu rfl ?_;exact Zat
   | true=>
    have HY:Hid (aw (fun x:bD=>x.id) (fun x:bD=>gw x) 0 (list.take (k+1))=true∧((k+1:Nat):Int)≤max Me 0):=gM HX.I HT.I.1 HT.I.2.1 j6.I fW;obtain ⟨g,ph⟩:=jA.I.lay (x:=x) (e:=r_ (b_ true)) (w':=w3) ⟨rfl,(fun h=>by cases h),fun _=>fm fW⟩ (jB HT.I.1 HT.I.2.1 j6.I);have BD:Hid (eS eH (fun x:bD=>x.id) 59 78 w w3 Me (l ++ [(x,g)])):=ph;have oh:Hid (w3.heap[wr.heap.size]? =o_ (c_ (eH x) 59)):=by
     exact x_
    clear hno fm fW jA r0 r1 v0 v1 z0 z1 d0 d1 d2 HB ph;obtain ⟨d0,d1,d2⟩:=gm oh.I;go_wp2_with fail;refine (jv x _).mono ?_;rintro e w5 ⟨rfl,iJ⟩;have EY:Hid (eS eH (fun x:bD=>x.id) 59 78 w w5 Me (l ++ [(x,g)])):=BD.I.below iJ;have HE:Hid (bW (fun x:bD=>x.id) 0 (list.take (k+1))=x.id):=eG HX.I 0;exact qr
  ·have i1: ¬ (k:Int) < (list.length:Int):=by omega
   have HK:Hid (list.take k=list∧((list.length:Int)≤max Me 0)):=⟨KF (by omega),by have:=HT.I.2.2; omega⟩
   have HY:Hid ((aw (fun x:bD=>x.id) (fun x:bD=>gw x) 0 list && decide ((list.length:Int)≤max Me 0))=true):=by
    exact K_
   obtain ⟨r0,r1,v0,v1,z0,z1⟩:=HI.I.cells;go_wp2;refine KT (v:=u_ #[a_ #[i_ j_ Me,.map (o_ (w.heap.size+1))],b_ true]) Zdu rfl ?_;exact CE
def EJ (w:w_) (Me:Int) (list:List aB) (k:Nat) (wr:w_):Prop:=
 ∃ l:List (aB × Nat),l.map (·.1)=list.take k∧eS cG (fun x:aB=>x.id) 122 81 w wr Me l∧aw (fun x:aB=>x.id) (fun x:aB=>ey x) 0 (list.take k)=true∧(k:Int)≤max Me 0
theorem rZ (a:Option d_) (list:List aB) (cap:Nat) (Me:Int) (w:w_) (hl:list.length≤1048576) (h:bJ.bU w a list) (hf: ∀ x∈list,ix w x) (hw: ∀ x∈list,(Lit.int j_ x.id).wf=true):
  k_ J3 45 #[s_ a list.length cap,i_ j_ Me] w fun e w'=>jN cG (fun x:aB=>x.id) 122 w Me (aw (fun x:aB=>x.id) (fun x:aB=>ey x) 0 list && decide ((list.length:Int)≤max Me 0)) list e w':=by
 have hmk:=P4 (P:=J3) 79;have hmn:=mT;have H0:Hid (eS cG (fun x:aB=>x.id) 122 81 w (((w.alloc (c_ #[i_ j_ 0,.map n_] 81)).alloc (.map #[] 0)).alloc (c_ #[i_ j_ Me,.map (o_ (w.heap.size+1))] 81)) Me []):=eS.start 81 w Me;have HL:Hid (bJ.bU w a list∧(∀ x∈list,ix w x)∧ ∀ x∈list,(Lit.int j_ x.id).wf=true):=⟨h,hf,hw⟩
 clear h hf hw
 go_enter func45,ntmps45
 go_wp2_with fail
 go_loopw [7,15] (fun last i wr=> ∃ k:Nat,k≤list.length∧i=i_ j_ k∧last=i_ j_ (bW (fun x:aB=>x.id) 0 (list.take k))∧Hid (EJ w Me list k wr)) (fun _ i _=>list.length - (intOf i).toNat)
 case atStart=>exact ⟨0,Ky _,rfl,rfl,⟨[],by simp,H0.I,rfl,by simp; omega⟩⟩
 case round=>
  clear H0 hmk;obtain ⟨k,hk,rfl,rfl,HA⟩:=hrel;obtain ⟨l,hlm,hin,oC,hkm⟩:=HA.I;have HT:Hid (l.map (·.1)=list.take k∧aw (fun x:aB=>x.id) (fun x:aB=>ey x) 0 (list.take k)=true∧(k:Int)≤max Me 0):=⟨hlm,oC,hkm⟩
  have HI:Hid (eS cG (fun x:aB=>x.id) 122 81 w wr Me l):=hin;clear HA hlm hin oC hkm;by_cases hlt:k < list.length
  ·have i0:(0:Int)≤(k:Int):=by omega
   have i1:(k:Int) < (list.length:Int):=by omega
   obtain ⟨x,hx⟩: ∃ x,list[k]? =o_ x:=⟨_,Kz hlt⟩
   have hmem:=KA hx;have HX:Hid (list[k]? =o_ x):=hx;have HF:Hid (ix w x∧(Lit.int j_ x.id).wf=true):=⟨HL.I.2.1 x hmem,HL.I.2.2 x hmem⟩
   obtain ⟨gs,ha,hat⟩:=j4 (HL.I.1.below HI.I.cd) hx;obtain ⟨c0,c1⟩:=hat;subst ha;clear hx hmem;go_wp2_with fail;refine (iw x _).mono ?_;rintro e w2 ⟨rfl,hb2⟩;have jA:Hid (eS cG (fun x:aB=>x.id) 122 81 w w2 Me l):=(HI.I.below ((Kp _ wr).alloc (Ki _) (c_ #[i_ j_ x.id,b_ x.up] 122))).below hb2;have HB:Hid (w2.heap[wr.heap.size]? =o_ (c_ (cG x) 122)):=(hb2.block _ (by simp)).trans (Kj _ _);have HZ:Hid (w.heap.size+1 < wr.heap.size):=by show w.heap.size+1 < wr.heap.size; have:=(J2.1 HI.I.var).1; omega
   clear hb2 HI c0 c1;obtain ⟨d0,d1⟩:=kF HB.I;obtain ⟨r0,r1,v0,v1,z0,z1⟩:=jA.I.cells;by_cases hle:x.id≤bW (fun x:aB=>x.id) 0 (list.take k)
   ·have HN:Hid ((aw (fun x:aB=>x.id) (fun x:aB=>ey x) 0 list && decide ((list.length:Int)≤max Me 0))=false):=by
     show _=false
     rw [bS HX.I (fun hh=>absurd hh.2.1 (by show ¬ bW (fun x:aB=>x.id) 0 (list.take k) < x.id; omega))]; rfl
    go_wp2;refine KT (v:=u_ #[a_ #[i_ j_ 0,.map n_],b_ false]) Zdt rfl ?_;exact Zas
   have j6:Hid (bW (fun x:aB=>x.id) 0 (list.take k) < x.id):=by show _ < _; omega
   have hkl:(RW (fun x:aB=>x.id) l).length≤1048576:=by
    exact Q3
   go_wp2_with fail;refine (rC Me (w.heap.size+1) (RW (fun x:aB=>x.id) l) x w2 jA.I.eh.map HF.I.2 hkl (HF.I.1.below jA.I.cd)).mono ?_;rintro e w3 ⟨rfl,hno,fm⟩;cases fW:iI Me (RW (fun x:aB=>x.id) l) x.id (ey x) with
   | false=>
    have HN:Hid ((aw (fun x:aB=>x.id) (fun x:aB=>ey x) 0 list && decide ((list.length:Int)≤max Me 0))=false):=iC HX.I HT.I.1 HT.I.2.1 j6.I fW;have Aw:Hid (eS cG (fun x:aB=>x.id) 122 81 w w3 Me l):=jA.I.below (hno fW);clear hno fm fW jA r0 r1 v0 v1 z0 z1 d0 d1 HB;obtain ⟨r0,r1,v0,v1,z0,z1⟩:=Aw.I.cells;go_wp2;refine KT (v:=u_ #[a_ #[i_ j_ 0,.map n_],b_ false]) Zdt rfl ?_;exact Zat
   | true=>
    have HY:Hid (aw (fun x:aB=>x.id) (fun x:aB=>ey x) 0 (list.take (k+1))=true∧((k+1:Nat):Int)≤max Me 0):=gM HX.I HT.I.1 HT.I.2.1 j6.I fW;obtain ⟨g,ph⟩:=jA.I.lay (x:=x) (e:=r_ (b_ true)) (w':=w3) ⟨rfl,(fun h=>by cases h),fun _=>fm fW⟩ (jB HT.I.1 HT.I.2.1 j6.I);have BD:Hid (eS cG (fun x:aB=>x.id) 122 81 w w3 Me (l ++ [(x,g)])):=ph;have oh:Hid (w3.heap[wr.heap.size]? =o_ (c_ (cG x) 122)):=by
     exact x_
    clear hno fm fW jA r0 r1 v0 v1 z0 z1 d0 d1 HB ph;obtain ⟨d0,d1⟩:=kF oh.I;go_wp2_with fail;refine (iw x _).mono ?_;rintro e w5 ⟨rfl,iJ⟩;have EY:Hid (eS cG (fun x:aB=>x.id) 122 81 w w5 Me (l ++ [(x,g)])):=BD.I.below iJ;have HE:Hid (bW (fun x:aB=>x.id) 0 (list.take (k+1))=x.id):=eG HX.I 0;exact qr
  ·have i1: ¬ (k:Int) < (list.length:Int):=by omega
   have HK:Hid (list.take k=list∧((list.length:Int)≤max Me 0)):=⟨KF (by omega),by have:=HT.I.2.2; omega⟩
   have HY:Hid ((aw (fun x:aB=>x.id) (fun x:aB=>ey x) 0 list && decide ((list.length:Int)≤max Me 0))=true):=by
    exact K_
   obtain ⟨r0,r1,v0,v1,z0,z1⟩:=HI.I.cells;go_wp2;refine KT (v:=u_ #[a_ #[i_ j_ Me,.map (o_ (w.heap.size+1))],b_ true]) Zdt rfl ?_;exact CE
def EX (w:w_) (Me:Int) (list:List az) (k:Nat) (wr:w_):Prop:=
 ∃ l:List (az × Nat),l.map (·.1)=list.take k∧eS cI (fun x:az=>x.id) 126 84 w wr Me l∧aw (fun x:az=>x.id) (fun x:az=>cU x) 0 (list.take k)=true∧(k:Int)≤max Me 0
theorem si (a:Option d_) (list:List az) (cap:Nat) (Me:Int) (w:w_) (hl:list.length≤1048576) (h:bG.bU w a list) (hf: ∀ x∈list,gX w x) (hw: ∀ x∈list,(Lit.int j_ x.id).wf=true):
  k_ J3 46 #[s_ a list.length cap,i_ j_ Me] w fun e w'=>jN cI (fun x:az=>x.id) 126 w Me (aw (fun x:az=>x.id) (fun x:az=>cU x) 0 list && decide ((list.length:Int)≤max Me 0)) list e w':=by
 have hmk:=P4 (P:=J3) 82;have hmn:=nr;have H0:Hid (eS cI (fun x:az=>x.id) 126 84 w (((w.alloc (c_ #[i_ j_ 0,.map n_] 84)).alloc (.map #[] 0)).alloc (c_ #[i_ j_ Me,.map (o_ (w.heap.size+1))] 84)) Me []):=eS.start 84 w Me;have HL:Hid (bG.bU w a list∧(∀ x∈list,gX w x)∧ ∀ x∈list,(Lit.int j_ x.id).wf=true):=⟨h,hf,hw⟩
 clear h hf hw
 go_enter func46,ntmps46
 go_wp2_with fail
 go_loopw [7,15] (fun last i wr=> ∃ k:Nat,k≤list.length∧i=i_ j_ k∧last=i_ j_ (bW (fun x:az=>x.id) 0 (list.take k))∧Hid (EX w Me list k wr)) (fun _ i _=>list.length - (intOf i).toNat)
 case atStart=>exact ⟨0,Ky _,rfl,rfl,⟨[],by simp,H0.I,rfl,by simp; omega⟩⟩
 case round=>
  clear H0 hmk;obtain ⟨k,hk,rfl,rfl,HA⟩:=hrel;obtain ⟨l,hlm,hin,oC,hkm⟩:=HA.I;have HT:Hid (l.map (·.1)=list.take k∧aw (fun x:az=>x.id) (fun x:az=>cU x) 0 (list.take k)=true∧(k:Int)≤max Me 0):=⟨hlm,oC,hkm⟩
  have HI:Hid (eS cI (fun x:az=>x.id) 126 84 w wr Me l):=hin;clear HA hlm hin oC hkm;by_cases hlt:k < list.length
  ·have i0:(0:Int)≤(k:Int):=by omega
   have i1:(k:Int) < (list.length:Int):=by omega
   obtain ⟨x,hx⟩: ∃ x,list[k]? =o_ x:=⟨_,Kz hlt⟩
   have hmem:=KA hx;have HX:Hid (list[k]? =o_ x):=hx;have HF:Hid (gX w x∧(Lit.int j_ x.id).wf=true):=⟨HL.I.2.1 x hmem,HL.I.2.2 x hmem⟩
   obtain ⟨gs,ha,hat⟩:=jr (HL.I.1.below HI.I.cd) hx;obtain ⟨c0,c1,c2⟩:=hat;subst ha;clear hx hmem;go_wp2_with fail;refine (iq x _).mono ?_;rintro e w2 ⟨rfl,hb2⟩;have jA:Hid (eS cI (fun x:az=>x.id) 126 84 w w2 Me l):=(HI.I.below ((Kp _ wr).alloc (Ki _) (c_ #[i_ j_ x.id,b_ x.shown,t_ x.text] 126))).below hb2;have HB:Hid (w2.heap[wr.heap.size]? =o_ (c_ (cI x) 126)):=(hb2.block _ (by simp)).trans (Kj _ _);have HZ:Hid (w.heap.size+1 < wr.heap.size):=by show w.heap.size+1 < wr.heap.size; have:=(J2.1 HI.I.var).1; omega
   clear hb2 HI c0 c1 c2;obtain ⟨d0,d1,d2⟩:=kJ HB.I;obtain ⟨r0,r1,v0,v1,z0,z1⟩:=jA.I.cells;by_cases hle:x.id≤bW (fun x:az=>x.id) 0 (list.take k)
   ·have HN:Hid ((aw (fun x:az=>x.id) (fun x:az=>cU x) 0 list && decide ((list.length:Int)≤max Me 0))=false):=by
     show _=false
     rw [bS HX.I (fun hh=>absurd hh.2.1 (by show ¬ bW (fun x:az=>x.id) 0 (list.take k) < x.id; omega))]; rfl
    go_wp2;refine KT (v:=u_ #[a_ #[i_ j_ 0,.map n_],b_ false]) Zds rfl ?_;exact Zas
   have j6:Hid (bW (fun x:az=>x.id) 0 (list.take k) < x.id):=by show _ < _; omega
   have hkl:(RW (fun x:az=>x.id) l).length≤1048576:=by
    exact Q3
   go_wp2_with fail;refine (rr Me (w.heap.size+1) (RW (fun x:az=>x.id) l) x w2 jA.I.eh.map HF.I.2 hkl (HF.I.1.below jA.I.cd)).mono ?_;rintro e w3 ⟨rfl,hno,fm⟩;cases fW:iI Me (RW (fun x:az=>x.id) l) x.id (cU x) with
   | false=>
    have HN:Hid ((aw (fun x:az=>x.id) (fun x:az=>cU x) 0 list && decide ((list.length:Int)≤max Me 0))=false):=iC HX.I HT.I.1 HT.I.2.1 j6.I fW;have Aw:Hid (eS cI (fun x:az=>x.id) 126 84 w w3 Me l):=jA.I.below (hno fW);clear hno fm fW jA r0 r1 v0 v1 z0 z1 d0 d1 d2 HB;obtain ⟨r0,r1,v0,v1,z0,z1⟩:=Aw.I.cells;go_wp2;refine KT (v:=u_ #[a_ #[i_ j_ 0,.map n_],b_ false]) Zds rfl ?_;exact Zat
   | true=>
    have HY:Hid (aw (fun x:az=>x.id) (fun x:az=>cU x) 0 (list.take (k+1))=true∧((k+1:Nat):Int)≤max Me 0):=gM HX.I HT.I.1 HT.I.2.1 j6.I fW;obtain ⟨g,ph⟩:=jA.I.lay (x:=x) (e:=r_ (b_ true)) (w':=w3) ⟨rfl,(fun h=>by cases h),fun _=>fm fW⟩ (jB HT.I.1 HT.I.2.1 j6.I);have BD:Hid (eS cI (fun x:az=>x.id) 126 84 w w3 Me (l ++ [(x,g)])):=ph;have oh:Hid (w3.heap[wr.heap.size]? =o_ (c_ (cI x) 126)):=by
     exact x_
    clear hno fm fW jA r0 r1 v0 v1 z0 z1 d0 d1 d2 HB ph;obtain ⟨d0,d1,d2⟩:=kJ oh.I;go_wp2_with fail;refine (iq x _).mono ?_;rintro e w5 ⟨rfl,iJ⟩;have EY:Hid (eS cI (fun x:az=>x.id) 126 84 w w5 Me (l ++ [(x,g)])):=BD.I.below iJ;have HE:Hid (bW (fun x:az=>x.id) 0 (list.take (k+1))=x.id):=eG HX.I 0;exact qr
  ·have i1: ¬ (k:Int) < (list.length:Int):=by omega
   have HK:Hid (list.take k=list∧((list.length:Int)≤max Me 0)):=⟨KF (by omega),by have:=HT.I.2.2; omega⟩
   have HY:Hid ((aw (fun x:az=>x.id) (fun x:az=>cU x) 0 list && decide ((list.length:Int)≤max Me 0))=true):=by
    exact K_
   obtain ⟨r0,r1,v0,v1,z0,z1⟩:=HI.I.cells;go_wp2;refine KT (v:=u_ #[a_ #[i_ j_ Me,.map (o_ (w.heap.size+1))],b_ true]) Zds rfl ?_;exact CE
def Dj (w:w_) (Me:Int) (list:List au) (k:Nat) (wr:w_):Prop:=
 ∃ l:List (au × Nat),l.map (·.1)=list.take k∧eS bQ (fun x:au=>x.id) 114 87 w wr Me l∧aw (fun x:au=>x.id) (fun x:au=>ct x.toci) 0 (list.take k)=true∧(k:Int)≤max Me 0
theorem rH (a:Option d_) (list:List au) (cap:Nat) (Me:Int) (w:w_) (hl:list.length≤1048576) (h:bm.bU w a list) (hf: ∀ x∈list,fM w x) (hw: ∀ x∈list,(Lit.int j_ x.id).wf=true):
  k_ J3 47 #[s_ a list.length cap,i_ j_ Me] w fun e w'=>jN bQ (fun x:au=>x.id) 114 w Me (aw (fun x:au=>x.id) (fun x:au=>ct x.toci) 0 list && decide ((list.length:Int)≤max Me 0)) list e w':=by
 have hmk:=P4 (P:=J3) 85;have hmn:=mc;have H0:Hid (eS bQ (fun x:au=>x.id) 114 87 w (((w.alloc (c_ #[i_ j_ 0,.map n_] 87)).alloc (.map #[] 0)).alloc (c_ #[i_ j_ Me,.map (o_ (w.heap.size+1))] 87)) Me []):=eS.start 87 w Me;have HL:Hid (bm.bU w a list∧(∀ x∈list,fM w x)∧ ∀ x∈list,(Lit.int j_ x.id).wf=true):=⟨h,hf,hw⟩
 clear h hf hw
 go_enter func47,ntmps47
 go_wp2_with fail
 go_loopw [7,15] (fun last i wr=> ∃ k:Nat,k≤list.length∧i=i_ j_ k∧last=i_ j_ (bW (fun x:au=>x.id) 0 (list.take k))∧Hid (Dj w Me list k wr)) (fun _ i _=>list.length - (intOf i).toNat)
 case atStart=>exact ⟨0,Ky _,rfl,rfl,⟨[],by simp,H0.I,rfl,by simp; omega⟩⟩
 case round=>
  clear H0 hmk;obtain ⟨k,hk,rfl,rfl,HA⟩:=hrel;obtain ⟨l,hlm,hin,oC,hkm⟩:=HA.I;have HT:Hid (l.map (·.1)=list.take k∧aw (fun x:au=>x.id) (fun x:au=>ct x.toci) 0 (list.take k)=true∧(k:Int)≤max Me 0):=⟨hlm,oC,hkm⟩
  have HI:Hid (eS bQ (fun x:au=>x.id) 114 87 w wr Me l):=hin;clear HA hlm hin oC hkm;by_cases hlt:k < list.length
  ·have i0:(0:Int)≤(k:Int):=by omega
   have i1:(k:Int) < (list.length:Int):=by omega
   obtain ⟨x,hx⟩: ∃ x,list[k]? =o_ x:=⟨_,Kz hlt⟩
   have hmem:=KA hx;have HX:Hid (list[k]? =o_ x):=hx;have HF:Hid (fM w x∧(Lit.int j_ x.id).wf=true):=⟨HL.I.2.1 x hmem,HL.I.2.2 x hmem⟩
   obtain ⟨gs,ha,hat⟩:=iA (HL.I.1.below HI.I.cd) hx;obtain ⟨c0,c1,c2⟩:=hat;subst ha;clear hx hmem;go_wp2_with fail;refine (gP x _).mono ?_;rintro e w2 ⟨rfl,hb2⟩;have jA:Hid (eS bQ (fun x:au=>x.id) 114 87 w w2 Me l):=(HI.I.below ((Kp _ wr).alloc (Ki _) (c_ #[i_ j_ x.id,i_ j_ x.max,s_ x.ak x.Ma.length x.aq] 114))).below hb2;have HB:Hid (w2.heap[wr.heap.size]? =o_ (c_ (bQ x) 114)):=(hb2.block _ (by simp)).trans (Kj _ _);have HZ:Hid (w.heap.size+1 < wr.heap.size):=by show w.heap.size+1 < wr.heap.size; have:=(J2.1 HI.I.var).1; omega
   clear hb2 HI c0 c1 c2;obtain ⟨d0,d1,d2⟩:=ia HB.I;obtain ⟨r0,r1,v0,v1,z0,z1⟩:=jA.I.cells;by_cases hle:x.id≤bW (fun x:au=>x.id) 0 (list.take k)
   ·have HN:Hid ((aw (fun x:au=>x.id) (fun x:au=>ct x.toci) 0 list && decide ((list.length:Int)≤max Me 0))=false):=by
     show _=false
     rw [bS HX.I (fun hh=>absurd hh.2.1 (by show ¬ bW (fun x:au=>x.id) 0 (list.take k) < x.id; omega))]; rfl
    go_wp2;refine KT (v:=u_ #[a_ #[i_ j_ 0,.map n_],b_ false]) Zdr rfl ?_;exact Zas
   have j6:Hid (bW (fun x:au=>x.id) 0 (list.take k) < x.id):=by show _ < _; omega
   have hkl:(RW (fun x:au=>x.id) l).length≤1048576:=by
    exact Q3
   go_wp2_with fail;refine (pV Me (w.heap.size+1) (RW (fun x:au=>x.id) l) x w2 jA.I.eh.map HF.I.2 hkl (HF.I.1.below jA.I.cd)).mono ?_;rintro e w3 ⟨rfl,hno,fm⟩;cases fW:iI Me (RW (fun x:au=>x.id) l) x.id (ct x.toci) with
   | false=>
    have HN:Hid ((aw (fun x:au=>x.id) (fun x:au=>ct x.toci) 0 list && decide ((list.length:Int)≤max Me 0))=false):=iC HX.I HT.I.1 HT.I.2.1 j6.I fW;have Aw:Hid (eS bQ (fun x:au=>x.id) 114 87 w w3 Me l):=jA.I.below (hno fW);clear hno fm fW jA r0 r1 v0 v1 z0 z1 d0 d1 d2 HB;obtain ⟨r0,r1,v0,v1,z0,z1⟩:=Aw.I.cells;go_wp2;refine KT (v:=u_ #[a_ #[i_ j_ 0,.map n_],b_ false]) Zdr rfl ?_;exact Zat
   | true=>
    have HY:Hid (aw (fun x:au=>x.id) (fun x:au=>ct x.toci) 0 (list.take (k+1))=true∧((k+1:Nat):Int)≤max Me 0):=gM HX.I HT.I.1 HT.I.2.1 j6.I fW;obtain ⟨g,ph⟩:=jA.I.lay (x:=x) (e:=r_ (b_ true)) (w':=w3) ⟨rfl,(fun h=>by cases h),fun _=>fm fW⟩ (jB HT.I.1 HT.I.2.1 j6.I);have BD:Hid (eS bQ (fun x:au=>x.id) 114 87 w w3 Me (l ++ [(x,g)])):=ph;have oh:Hid (w3.heap[wr.heap.size]? =o_ (c_ (bQ x) 114)):=by
     exact x_
    clear hno fm fW jA r0 r1 v0 v1 z0 z1 d0 d1 d2 HB ph;obtain ⟨d0,d1,d2⟩:=ia oh.I;go_wp2_with fail;refine (gP x _).mono ?_;rintro e w5 ⟨rfl,iJ⟩;have EY:Hid (eS bQ (fun x:au=>x.id) 114 87 w w5 Me (l ++ [(x,g)])):=BD.I.below iJ;have HE:Hid (bW (fun x:au=>x.id) 0 (list.take (k+1))=x.id):=eG HX.I 0;exact qr
  ·have i1: ¬ (k:Int) < (list.length:Int):=by omega
   have HK:Hid (list.take k=list∧((list.length:Int)≤max Me 0)):=⟨KF (by omega),by have:=HT.I.2.2; omega⟩
   have HY:Hid ((aw (fun x:au=>x.id) (fun x:au=>ct x.toci) 0 list && decide ((list.length:Int)≤max Me 0))=true):=by
    exact K_
   obtain ⟨r0,r1,v0,v1,z0,z1⟩:=HI.I.cells;go_wp2;refine KT (v:=u_ #[a_ #[i_ j_ Me,.map (o_ (w.heap.size+1))],b_ true]) Zdr rfl ?_;exact CE
def F3 (w:w_) (Me:Int) (list:List aM) (k:Nat) (wr:w_):Prop:=
 ∃ l:List (aM × Nat),l.map (·.1)=list.take k∧eS cW (fun x:aM=>x.id) 132 90 w wr Me l∧aw (fun x:aM=>x.id) (fun x:aM=>dj x.todS) 0 (list.take k)=true∧(k:Int)≤max Me 0
theorem tB (a:Option d_) (list:List aM) (cap:Nat) (Me:Int) (w:w_) (hl:list.length≤1048576) (h:bX.bU w a list) (hf: ∀ x∈list,jf w x) (hw: ∀ x∈list,(Lit.int j_ x.id).wf=true):
  k_ J3 48 #[s_ a list.length cap,i_ j_ Me] w fun e w'=>jN cW (fun x:aM=>x.id) 132 w Me (aw (fun x:aM=>x.id) (fun x:aM=>dj x.todS) 0 list && decide ((list.length:Int)≤max Me 0)) list e w':=by
 have hmk:=P4 (P:=J3) 88;have hmn:=nY;have H0:Hid (eS cW (fun x:aM=>x.id) 132 90 w (((w.alloc (c_ #[i_ j_ 0,.map n_] 90)).alloc (.map #[] 0)).alloc (c_ #[i_ j_ Me,.map (o_ (w.heap.size+1))] 90)) Me []):=eS.start 90 w Me;have HL:Hid (bX.bU w a list∧(∀ x∈list,jf w x)∧ ∀ x∈list,(Lit.int j_ x.id).wf=true):=⟨h,hf,hw⟩
 clear h hf hw
 go_enter func48,ntmps48
 go_wp2_with fail
 go_loopw [7,15] (fun last i wr=> ∃ k:Nat,k≤list.length∧i=i_ j_ k∧last=i_ j_ (bW (fun x:aM=>x.id) 0 (list.take k))∧Hid (F3 w Me list k wr)) (fun _ i _=>list.length - (intOf i).toNat)
 case atStart=>exact ⟨0,Ky _,rfl,rfl,⟨[],by simp,H0.I,rfl,by simp; omega⟩⟩
 case round=>
  clear H0 hmk;obtain ⟨k,hk,rfl,rfl,HA⟩:=hrel;obtain ⟨l,hlm,hin,oC,hkm⟩:=HA.I;have HT:Hid (l.map (·.1)=list.take k∧aw (fun x:aM=>x.id) (fun x:aM=>dj x.todS) 0 (list.take k)=true∧(k:Int)≤max Me 0):=⟨hlm,oC,hkm⟩
  have HI:Hid (eS cW (fun x:aM=>x.id) 132 90 w wr Me l):=hin;clear HA hlm hin oC hkm;by_cases hlt:k < list.length
  ·have i0:(0:Int)≤(k:Int):=by omega
   have i1:(k:Int) < (list.length:Int):=by omega
   obtain ⟨x,hx⟩: ∃ x,list[k]? =o_ x:=⟨_,Kz hlt⟩
   have hmem:=KA hx;have HX:Hid (list[k]? =o_ x):=hx;have HF:Hid (jf w x∧(Lit.int j_ x.id).wf=true):=⟨HL.I.2.1 x hmem,HL.I.2.2 x hmem⟩
   obtain ⟨gs,ha,hat⟩:=lm (HL.I.1.below HI.I.cd) hx;obtain ⟨c0,c1,c2,c3,c4⟩:=hat;subst ha;clear hx hmem;go_wp2_with fail;refine (iN x _).mono ?_;rintro e w2 ⟨rfl,hb2⟩;have jA:Hid (eS cW (fun x:aM=>x.id) 132 90 w w2 Me l):=(HI.I.below ((Kp _ wr).alloc (Ki _) (c_ #[i_ j_ x.id,b_ x.I,b_ x.Mf,i_ j_ x.max,s_ x.ak x.Ma.length x.aq] 132))).below hb2;have HB:Hid (w2.heap[wr.heap.size]? =o_ (c_ (cW x) 132)):=(hb2.block _ (by simp)).trans (Kj _ _);have HZ:Hid (w.heap.size+1 < wr.heap.size):=by show w.heap.size+1 < wr.heap.size; have:=(J2.1 HI.I.var).1; omega
   clear hb2 HI c0 c1 c2 c3 c4;obtain ⟨d0,d1,d2,d3,d4⟩:=gE HB.I;obtain ⟨r0,r1,v0,v1,z0,z1⟩:=jA.I.cells;by_cases hle:x.id≤bW (fun x:aM=>x.id) 0 (list.take k)
   ·have HN:Hid ((aw (fun x:aM=>x.id) (fun x:aM=>dj x.todS) 0 list && decide ((list.length:Int)≤max Me 0))=false):=by
     show _=false
     rw [bS HX.I (fun hh=>absurd hh.2.1 (by show ¬ bW (fun x:aM=>x.id) 0 (list.take k) < x.id; omega))]; rfl
    go_wp2;refine KT (v:=u_ #[a_ #[i_ j_ 0,.map n_],b_ false]) Zdq rfl ?_;exact Zas
   have j6:Hid (bW (fun x:aM=>x.id) 0 (list.take k) < x.id):=by show _ < _; omega
   have hkl:(RW (fun x:aM=>x.id) l).length≤1048576:=by
    exact Q3
   go_wp2_with fail;refine (tb Me (w.heap.size+1) (RW (fun x:aM=>x.id) l) x w2 jA.I.eh.map HF.I.2 hkl (HF.I.1.below jA.I.cd)).mono ?_;rintro e w3 ⟨rfl,hno,fm⟩;cases fW:iI Me (RW (fun x:aM=>x.id) l) x.id (dj x.todS) with
   | false=>
    have HN:Hid ((aw (fun x:aM=>x.id) (fun x:aM=>dj x.todS) 0 list && decide ((list.length:Int)≤max Me 0))=false):=iC HX.I HT.I.1 HT.I.2.1 j6.I fW;have Aw:Hid (eS cW (fun x:aM=>x.id) 132 90 w w3 Me l):=jA.I.below (hno fW);clear hno fm fW jA r0 r1 v0 v1 z0 z1 d0 d1 d2 d3 d4 HB;obtain ⟨r0,r1,v0,v1,z0,z1⟩:=Aw.I.cells;go_wp2;refine KT (v:=u_ #[a_ #[i_ j_ 0,.map n_],b_ false]) Zdq rfl ?_;exact Zat
   | true=>
    have HY:Hid (aw (fun x:aM=>x.id) (fun x:aM=>dj x.todS) 0 (list.take (k+1))=true∧((k+1:Nat):Int)≤max Me 0):=gM HX.I HT.I.1 HT.I.2.1 j6.I fW;obtain ⟨g,ph⟩:=jA.I.lay (x:=x) (e:=r_ (b_ true)) (w':=w3) ⟨rfl,(fun h=>by cases h),fun _=>fm fW⟩ (jB HT.I.1 HT.I.2.1 j6.I);have BD:Hid (eS cW (fun x:aM=>x.id) 132 90 w w3 Me (l ++ [(x,g)])):=ph;have oh:Hid (w3.heap[wr.heap.size]? =o_ (c_ (cW x) 132)):=by
     exact x_
    clear hno fm fW jA r0 r1 v0 v1 z0 z1 d0 d1 d2 d3 d4 HB ph;obtain ⟨d0,d1,d2,d3,d4⟩:=gE oh.I;go_wp2_with fail;refine (iN x _).mono ?_;rintro e w5 ⟨rfl,iJ⟩;have EY:Hid (eS cW (fun x:aM=>x.id) 132 90 w w5 Me (l ++ [(x,g)])):=BD.I.below iJ;have HE:Hid (bW (fun x:aM=>x.id) 0 (list.take (k+1))=x.id):=eG HX.I 0;exact qr
  ·have i1: ¬ (k:Int) < (list.length:Int):=by omega
   have HK:Hid (list.take k=list∧((list.length:Int)≤max Me 0)):=⟨KF (by omega),by have:=HT.I.2.2; omega⟩
   have HY:Hid ((aw (fun x:aM=>x.id) (fun x:aM=>dj x.todS) 0 list && decide ((list.length:Int)≤max Me 0))=true):=by
    exact K_
   obtain ⟨r0,r1,v0,v1,z0,z1⟩:=HI.I.cells;go_wp2;refine KT (v:=u_ #[a_ #[i_ j_ Me,.map (o_ (w.heap.size+1))],b_ true]) Zdq rfl ?_;exact CE
end
section
open Go.RowKit Go.Maps Go.Sort Go.Shelf
theorem yI (mb:Option Nat) (W:w_):k_ J3 148 #[.map mb] W fun e w'=>e=r_ (.func (.func 183) #[] #[p_ (o_ ⟨W.heap.size,0,n_⟩)])∧w'=W.alloc (c_ #[.map mb] 76):=
 (LO (n:=5)).1 (RC Tryz.keysSem Fence.wide 5 trivial rfl mb W)
theorem qR (Bm b:Nat) (m:df) (W:w_) (hBm:Bm < W.heap.size) (hc:W.cell? ⟨Bm,0,n_⟩=o_ (.map (o_ b))) (h:cF W b m) (hm:m.length≤1048576):
  k_ J3 115 #[.func (.func 183) #[] #[p_ (o_ ⟨Bm,0,n_⟩)]] W fun e w'=> ∃ v:v_,e=r_ v∧w'.ownsRow W.heap.size 2 1 v m.length (m.map fun p=> i_ j_ p.1)∧B_ W.heap.size W w':=by
 have hsz:Maps.size (gA m)=m.length:=size_map m;have hseq:SeqGives Fence.wide 2 J3 183 #[p_ (o_ ⟨Bm,0,n_⟩)] encZ (fun ss=>ss.Perm (intKeys (gA m))) (Maps.size (gA m)) W:=
  RD (ρ:=Tryz.keysSem_ren) { Tryz.keysSem with } Fence.wide _ trivial rfl (by omega) Bm b m.length (gA m) W hBm hc h.1
 have cS:=RE Tryz.sortedA Fence.wide 5 trivial trivial trivial trivial rfl (by omega) (Tryz.sortsA _) (LP func168 ZcI rfl) 183 #[p_ (o_ ⟨Bm,0,n_⟩)] trivial (LP func183 ZcI rfl) _ _ ZcX Zdl _ hseq
 exact nv
theorem CX:(Tryz.prog.info? 163).map (fun i=>(i.zero,i.size,i.bytes))=o_ (o_ (p_ n_),1,8):=by kernel_rfl
theorem CS (Me:Int) (b:Nat) (m:df) (w:w_) (h:cF w b m) (hm:m.length≤1048576) (hwf: ∀ p∈m,(Lit.int j_ p.1).wf=true):
  k_ J3 96 #[a_ #[i_ j_ Me,.map (o_ b)]] w fun e w'=> ∃ a cap,e=r_ (s_ a m.length cap)∧w'.ownsRow w.heap.size 163 1 (s_ a m.length cap) m.length (m.map fun p=>dt p.2)∧B_ w.heap.size w w':=by
 obtain ⟨i0,hi,e0⟩:=Kw.1 CX;simp only [Kx] at e0;have HI:Hid (Tryz.prog.info? 163=o_ i0∧i0.zero=o_ (p_ n_)∧i0.size=1∧i0.bytes=8):=⟨hi,e0⟩
 have HM:Hid (cF w b m∧ ∀ p∈m,(Lit.int j_ p.1).wf=true):=⟨h,hwf⟩
 have hbl:b < w.heap.size:=h.lt;clear hi e0 h hwf
 go_enter func96,ntmps96
 go_wp2_with (go_at_call 148; refine (yI _ _).mono ?_; rintro e w' ⟨rfl,rfl⟩);refine (qR (w.heap.size+1) b m _ (by simp) (by simp) (HM.I.1.below (((Kp _ w).alloc (Ki _) _).alloc (by simp) _)) hm).mono ?_;rintro e w2 ⟨v,rfl,hown,hb2⟩;have cy:Hid (B_ w.heap.size w w2):=(((Kp _ w).alloc (Ki _) _).alloc (by simp) _).trans (hb2.mono ZcJ);have HS:Hid (w2.heap[w.heap.size]? =o_ (c_ #[i_ j_ Me,.map (o_ b)] 78)):=(hb2.block _ ZcJ).trans ((PU (by simp)).trans (Kj _ _));obtain ⟨a,cap,hv,hrow⟩:=cr hown;have HR:Hid (Row w2 a (m.map fun p=> i_ j_ p.1)):=hrow;rw [hv];clear hv hown hrow hb2 v;go_wp2_with fail
 go_loopw [3,11] (fun l i wr=> ∃ k:Nat,k≤m.length∧i=i_ j_ k∧ ∃ a' cap',l=s_ a' k cap'∧Hid (wr.ownsRow w2.heap.size 163 1 (s_ a' k cap') k ((m.take k).map fun p=>dt p.2)∧B_ w2.heap.size w2 wr)) (fun _ i _=>m.length - (intOf i).toNat)
 case atStart=>exact ⟨0,Ky _,rfl,n_,0,rfl,⟨Ke _ _ _ _,Kp _ _⟩⟩
 case round=>
  obtain ⟨k,hk,rfl,a',cap',rfl,HO⟩:=hrel;by_cases hlt:k < m.length
  ·have qE:(0:Int)≤(k:Int):=by omega
   have i1:(k:Int) < (m.length:Int):=by omega
   obtain ⟨p,hp⟩: ∃ p,m[k]? =o_ p:=⟨_,Kz hlt⟩
   have hpm:=KA hp;obtain ⟨g,ha,hc⟩:=(HR.I.below HO.I.2) k (i_ j_ p.1) Zdk;subst ha;have oE:=cy.I.size;have kT:=HO.I.2.size;have ut:cF wr b m:=HM.I.1.below (cy.I.trans (HO.I.2.mono oE));have hlk:=ut.look underlying76 (vU wr) (HM.I.2 p hpm) false;rw [jI ut.2 hpm] at hlk;have hsw:wr.heap[w.heap.size]? =o_ (c_ #[i_ j_ Me,.map (o_ b)] 78):=(HO.I.2.block _ (J2.1 HS.I).1).trans HS.I;have s1:wr.cell? ⟨w.heap.size,1,n_⟩=o_ (.map (o_ b)):=by simp [World.cell?,hsw]
   have HP:Hid (m[k]? =o_ p):=hp;simp only [qz,dt,J5,if_false] at hlk;clear hp hpm ut hsw;go_wp2_with (at_builtin; refine KD _ rfl _ _ 190 rfl w2.heap.size 163 i0 (p_ n_) 1 8 underlying190 HI.I.1 HI.I.2.1 HI.I.2.2.1 HI.I.2.2.2 rfl (by decide) (s_ a' k cap') k ((m.take k).map fun p=>dt p.2) rfl (HO.I.1.alloc _) ⟨wr.heap.size,0,n_⟩ 1 1 [p_ (o_ ⟨p.2,0,n_⟩)] (by rfl) rfl (KE (cs:= #[p_ (o_ ⟨p.2,0,n_⟩)]) (t:=163) (fr:=(0,0)) (Kj wr _)) ZcT ZcL (by omega) ZcJ ?_; intro v' w5 hown' hgrow hnil jV; obtain ⟨a5,im,rfl,-⟩:=cr hown'; have HN:Hid (w5.ownsRow w2.heap.size 163 1 (s_ a5 (k+1) im) (k+1) ((m.take (k+1)).map fun p=>dt p.2)∧B_ w2.heap.size w2 w5):=⟨by rw [cj HP.I,Kl]; exact hown',(HO.I.2.alloc kT _).grown hgrow ZcJ (fun q hq=>(HO.I.1.lt q hq).1)⟩; clear hown' hgrow hnil jV);exact m_
  ·exact rg
theorem vq (mb:Option Nat) (W:w_):k_ J3 149 #[.map mb] W fun e w'=>e=r_ (.func (.func 184) #[] #[p_ (o_ ⟨W.heap.size,0,n_⟩)])∧w'=W.alloc (c_ #[.map mb] 79):=
 (LO (n:=5)).1 (RC Tryz.keysEvent Fence.wide 5 trivial rfl mb W)
theorem pD (Bm b:Nat) (m:df) (W:w_) (hBm:Bm < W.heap.size) (hc:W.cell? ⟨Bm,0,n_⟩=o_ (.map (o_ b))) (h:cF W b m) (hm:m.length≤1048576):
  k_ J3 115 #[.func (.func 184) #[] #[p_ (o_ ⟨Bm,0,n_⟩)]] W fun e w'=> ∃ v:v_,e=r_ v∧w'.ownsRow W.heap.size 2 1 v m.length (m.map fun p=> i_ j_ p.1)∧B_ W.heap.size W w':=by
 have hsz:Maps.size (gA m)=m.length:=size_map m;have hseq:SeqGives Fence.wide 2 J3 184 #[p_ (o_ ⟨Bm,0,n_⟩)] encZ (fun ss=>ss.Perm (intKeys (gA m))) (Maps.size (gA m)) W:=
  RD (ρ:=Tryz.keysEvent_ren) { Tryz.keysEvent with } Fence.wide _ trivial rfl (by omega) Bm b m.length (gA m) W hBm hc h.1
 have cS:=RE Tryz.sortedA Fence.wide 5 trivial trivial trivial trivial rfl (by omega) (Tryz.sortsA _) (LP func168 ZcI rfl) 184 #[p_ (o_ ⟨Bm,0,n_⟩)] trivial (LP func184 ZcI rfl) _ _ ZcX Zdl _ hseq
 exact nv
theorem zk:(Tryz.prog.info? 194).map (fun i=>(i.zero,i.size,i.bytes))=o_ (o_ (p_ n_),1,8):=by kernel_rfl
theorem yh (Me:Int) (b:Nat) (m:df) (w:w_) (h:cF w b m) (hm:m.length≤1048576) (hwf: ∀ p∈m,(Lit.int j_ p.1).wf=true):
  k_ J3 97 #[a_ #[i_ j_ Me,.map (o_ b)]] w fun e w'=> ∃ a cap,e=r_ (s_ a m.length cap)∧w'.ownsRow w.heap.size 194 1 (s_ a m.length cap) m.length (m.map fun p=>dt p.2)∧B_ w.heap.size w w':=by
 obtain ⟨i0,hi,e0⟩:=Kw.1 zk;simp only [Kx] at e0;have HI:Hid (Tryz.prog.info? 194=o_ i0∧i0.zero=o_ (p_ n_)∧i0.size=1∧i0.bytes=8):=⟨hi,e0⟩
 have HM:Hid (cF w b m∧ ∀ p∈m,(Lit.int j_ p.1).wf=true):=⟨h,hwf⟩
 have hbl:b < w.heap.size:=h.lt;clear hi e0 h hwf
 go_enter func97,ntmps97
 go_wp2_with (go_at_call 149; refine (vq _ _).mono ?_; rintro e w' ⟨rfl,rfl⟩);refine (pD (w.heap.size+1) b m _ (by simp) (by simp) (HM.I.1.below (((Kp _ w).alloc (Ki _) _).alloc (by simp) _)) hm).mono ?_;rintro e w2 ⟨v,rfl,hown,hb2⟩;have cy:Hid (B_ w.heap.size w w2):=(((Kp _ w).alloc (Ki _) _).alloc (by simp) _).trans (hb2.mono ZcJ);have HS:Hid (w2.heap[w.heap.size]? =o_ (c_ #[i_ j_ Me,.map (o_ b)] 81)):=(hb2.block _ ZcJ).trans ((PU (by simp)).trans (Kj _ _));obtain ⟨a,cap,hv,hrow⟩:=cr hown;have HR:Hid (Row w2 a (m.map fun p=> i_ j_ p.1)):=hrow;rw [hv];clear hv hown hrow hb2 v;go_wp2_with fail
 go_loopw [3,11] (fun l i wr=> ∃ k:Nat,k≤m.length∧i=i_ j_ k∧ ∃ a' cap',l=s_ a' k cap'∧Hid (wr.ownsRow w2.heap.size 194 1 (s_ a' k cap') k ((m.take k).map fun p=>dt p.2)∧B_ w2.heap.size w2 wr)) (fun _ i _=>m.length - (intOf i).toNat)
 case atStart=>exact ⟨0,Ky _,rfl,n_,0,rfl,⟨Ke _ _ _ _,Kp _ _⟩⟩
 case round=>
  obtain ⟨k,hk,rfl,a',cap',rfl,HO⟩:=hrel;by_cases hlt:k < m.length
  ·have qE:(0:Int)≤(k:Int):=by omega
   have i1:(k:Int) < (m.length:Int):=by omega
   obtain ⟨p,hp⟩: ∃ p,m[k]? =o_ p:=⟨_,Kz hlt⟩
   have hpm:=KA hp;obtain ⟨g,ha,hc⟩:=(HR.I.below HO.I.2) k (i_ j_ p.1) Zdk;subst ha;have oE:=cy.I.size;have kT:=HO.I.2.size;have ut:cF wr b m:=HM.I.1.below (cy.I.trans (HO.I.2.mono oE));have hlk:=ut.look underlying79 (rE wr) (HM.I.2 p hpm) false;rw [jI ut.2 hpm] at hlk;have hsw:wr.heap[w.heap.size]? =o_ (c_ #[i_ j_ Me,.map (o_ b)] 81):=(HO.I.2.block _ (J2.1 HS.I).1).trans HS.I;have s1:wr.cell? ⟨w.heap.size,1,n_⟩=o_ (.map (o_ b)):=by simp [World.cell?,hsw]
   have HP:Hid (m[k]? =o_ p):=hp;simp only [qz,dt,J5,if_false] at hlk;clear hp hpm ut hsw;go_wp2_with (at_builtin; refine KD _ rfl _ _ 192 rfl w2.heap.size 194 i0 (p_ n_) 1 8 underlying192 HI.I.1 HI.I.2.1 HI.I.2.2.1 HI.I.2.2.2 rfl (by decide) (s_ a' k cap') k ((m.take k).map fun p=>dt p.2) rfl (HO.I.1.alloc _) ⟨wr.heap.size,0,n_⟩ 1 1 [p_ (o_ ⟨p.2,0,n_⟩)] (by rfl) rfl (KE (cs:= #[p_ (o_ ⟨p.2,0,n_⟩)]) (t:=194) (fr:=(0,0)) (Kj wr _)) ZcT ZcL (by omega) ZcJ ?_; intro v' w5 hown' hgrow hnil jV; obtain ⟨a5,im,rfl,-⟩:=cr hown'; have HN:Hid (w5.ownsRow w2.heap.size 194 1 (s_ a5 (k+1) im) (k+1) ((m.take (k+1)).map fun p=>dt p.2)∧B_ w2.heap.size w2 w5):=⟨by rw [cj HP.I,Kl]; exact hown',(HO.I.2.alloc kT _).grown hgrow ZcJ (fun q hq=>(HO.I.1.lt q hq).1)⟩; clear hown' hgrow hnil jV);exact m_
  ·exact rg
theorem vL (mb:Option Nat) (W:w_):k_ J3 150 #[.map mb] W fun e w'=>e=r_ (.func (.func 185) #[] #[p_ (o_ ⟨W.heap.size,0,n_⟩)])∧w'=W.alloc (c_ #[.map mb] 82):=
 (LO (n:=5)).1 (RC Tryz.keysBoard Fence.wide 5 trivial rfl mb W)
theorem pB (Bm b:Nat) (m:df) (W:w_) (hBm:Bm < W.heap.size) (hc:W.cell? ⟨Bm,0,n_⟩=o_ (.map (o_ b))) (h:cF W b m) (hm:m.length≤1048576):
  k_ J3 115 #[.func (.func 185) #[] #[p_ (o_ ⟨Bm,0,n_⟩)]] W fun e w'=> ∃ v:v_,e=r_ v∧w'.ownsRow W.heap.size 2 1 v m.length (m.map fun p=> i_ j_ p.1)∧B_ W.heap.size W w':=by
 have hsz:Maps.size (gA m)=m.length:=size_map m;have hseq:SeqGives Fence.wide 2 J3 185 #[p_ (o_ ⟨Bm,0,n_⟩)] encZ (fun ss=>ss.Perm (intKeys (gA m))) (Maps.size (gA m)) W:=
  RD (ρ:=Tryz.keysBoard_ren) { Tryz.keysBoard with } Fence.wide _ trivial rfl (by omega) Bm b m.length (gA m) W hBm hc h.1
 have cS:=RE Tryz.sortedA Fence.wide 5 trivial trivial trivial trivial rfl (by omega) (Tryz.sortsA _) (LP func168 ZcI rfl) 185 #[p_ (o_ ⟨Bm,0,n_⟩)] trivial (LP func185 ZcI rfl) _ _ ZcX Zdl _ hseq
 exact nv
theorem zM:(Tryz.prog.info? 197).map (fun i=>(i.zero,i.size,i.bytes))=o_ (o_ (p_ n_),1,8):=by kernel_rfl
theorem yB (Me:Int) (b:Nat) (m:df) (w:w_) (h:cF w b m) (hm:m.length≤1048576) (hwf: ∀ p∈m,(Lit.int j_ p.1).wf=true):
  k_ J3 98 #[a_ #[i_ j_ Me,.map (o_ b)]] w fun e w'=> ∃ a cap,e=r_ (s_ a m.length cap)∧w'.ownsRow w.heap.size 197 1 (s_ a m.length cap) m.length (m.map fun p=>dt p.2)∧B_ w.heap.size w w':=by
 obtain ⟨i0,hi,e0⟩:=Kw.1 zM;simp only [Kx] at e0;have HI:Hid (Tryz.prog.info? 197=o_ i0∧i0.zero=o_ (p_ n_)∧i0.size=1∧i0.bytes=8):=⟨hi,e0⟩
 have HM:Hid (cF w b m∧ ∀ p∈m,(Lit.int j_ p.1).wf=true):=⟨h,hwf⟩
 have hbl:b < w.heap.size:=h.lt;clear hi e0 h hwf
 go_enter func98,ntmps98
 go_wp2_with (go_at_call 150; refine (vL _ _).mono ?_; rintro e w' ⟨rfl,rfl⟩);refine (pB (w.heap.size+1) b m _ (by simp) (by simp) (HM.I.1.below (((Kp _ w).alloc (Ki _) _).alloc (by simp) _)) hm).mono ?_;rintro e w2 ⟨v,rfl,hown,hb2⟩;have cy:Hid (B_ w.heap.size w w2):=(((Kp _ w).alloc (Ki _) _).alloc (by simp) _).trans (hb2.mono ZcJ);have HS:Hid (w2.heap[w.heap.size]? =o_ (c_ #[i_ j_ Me,.map (o_ b)] 84)):=(hb2.block _ ZcJ).trans ((PU (by simp)).trans (Kj _ _));obtain ⟨a,cap,hv,hrow⟩:=cr hown;have HR:Hid (Row w2 a (m.map fun p=> i_ j_ p.1)):=hrow;rw [hv];clear hv hown hrow hb2 v;go_wp2_with fail
 go_loopw [3,11] (fun l i wr=> ∃ k:Nat,k≤m.length∧i=i_ j_ k∧ ∃ a' cap',l=s_ a' k cap'∧Hid (wr.ownsRow w2.heap.size 197 1 (s_ a' k cap') k ((m.take k).map fun p=>dt p.2)∧B_ w2.heap.size w2 wr)) (fun _ i _=>m.length - (intOf i).toNat)
 case atStart=>exact ⟨0,Ky _,rfl,n_,0,rfl,⟨Ke _ _ _ _,Kp _ _⟩⟩
 case round=>
  obtain ⟨k,hk,rfl,a',cap',rfl,HO⟩:=hrel;by_cases hlt:k < m.length
  ·have qE:(0:Int)≤(k:Int):=by omega
   have i1:(k:Int) < (m.length:Int):=by omega
   obtain ⟨p,hp⟩: ∃ p,m[k]? =o_ p:=⟨_,Kz hlt⟩
   have hpm:=KA hp;obtain ⟨g,ha,hc⟩:=(HR.I.below HO.I.2) k (i_ j_ p.1) Zdk;subst ha;have oE:=cy.I.size;have kT:=HO.I.2.size;have ut:cF wr b m:=HM.I.1.below (cy.I.trans (HO.I.2.mono oE));have hlk:=ut.look underlying82 (qW wr) (HM.I.2 p hpm) false;rw [jI ut.2 hpm] at hlk;have hsw:wr.heap[w.heap.size]? =o_ (c_ #[i_ j_ Me,.map (o_ b)] 84):=(HO.I.2.block _ (J2.1 HS.I).1).trans HS.I;have s1:wr.cell? ⟨w.heap.size,1,n_⟩=o_ (.map (o_ b)):=by simp [World.cell?,hsw]
   have HP:Hid (m[k]? =o_ p):=hp;simp only [qz,dt,J5,if_false] at hlk;clear hp hpm ut hsw;go_wp2_with (at_builtin; refine KD _ rfl _ _ 195 rfl w2.heap.size 197 i0 (p_ n_) 1 8 underlying195 HI.I.1 HI.I.2.1 HI.I.2.2.1 HI.I.2.2.2 rfl (by decide) (s_ a' k cap') k ((m.take k).map fun p=>dt p.2) rfl (HO.I.1.alloc _) ⟨wr.heap.size,0,n_⟩ 1 1 [p_ (o_ ⟨p.2,0,n_⟩)] (by rfl) rfl (KE (cs:= #[p_ (o_ ⟨p.2,0,n_⟩)]) (t:=197) (fr:=(0,0)) (Kj wr _)) ZcT ZcL (by omega) ZcJ ?_; intro v' w5 hown' hgrow hnil jV; obtain ⟨a5,im,rfl,-⟩:=cr hown'; have HN:Hid (w5.ownsRow w2.heap.size 197 1 (s_ a5 (k+1) im) (k+1) ((m.take (k+1)).map fun p=>dt p.2)∧B_ w2.heap.size w2 w5):=⟨by rw [cj HP.I,Kl]; exact hown',(HO.I.2.alloc kT _).grown hgrow ZcJ (fun q hq=>(HO.I.1.lt q hq).1)⟩; clear hown' hgrow hnil jV);exact m_
  ·exact rg
theorem tr (mb:Option Nat) (W:w_):k_ J3 151 #[.map mb] W fun e w'=>e=r_ (.func (.func 186) #[] #[p_ (o_ ⟨W.heap.size,0,n_⟩)])∧w'=W.alloc (c_ #[.map mb] 85):=
 (LO (n:=5)).1 (RC Tryz.keysBuffer Fence.wide 5 trivial rfl mb W)
theorem oF (Bm b:Nat) (m:df) (W:w_) (hBm:Bm < W.heap.size) (hc:W.cell? ⟨Bm,0,n_⟩=o_ (.map (o_ b))) (h:cF W b m) (hm:m.length≤1048576):
  k_ J3 115 #[.func (.func 186) #[] #[p_ (o_ ⟨Bm,0,n_⟩)]] W fun e w'=> ∃ v:v_,e=r_ v∧w'.ownsRow W.heap.size 2 1 v m.length (m.map fun p=> i_ j_ p.1)∧B_ W.heap.size W w':=by
 have hsz:Maps.size (gA m)=m.length:=size_map m;have hseq:SeqGives Fence.wide 2 J3 186 #[p_ (o_ ⟨Bm,0,n_⟩)] encZ (fun ss=>ss.Perm (intKeys (gA m))) (Maps.size (gA m)) W:=
  RD (ρ:=Tryz.keysBuffer_ren) { Tryz.keysBuffer with } Fence.wide _ trivial rfl (by omega) Bm b m.length (gA m) W hBm hc h.1
 have cS:=RE Tryz.sortedA Fence.wide 5 trivial trivial trivial trivial rfl (by omega) (Tryz.sortsA _) (LP func168 ZcI rfl) 186 #[p_ (o_ ⟨Bm,0,n_⟩)] trivial (LP func186 ZcI rfl) _ _ ZcX Zdl _ hseq
 exact nv
theorem wt:(Tryz.prog.info? 164).map (fun i=>(i.zero,i.size,i.bytes))=o_ (o_ (p_ n_),1,8):=by kernel_rfl
theorem wF (Me:Int) (b:Nat) (m:df) (w:w_) (h:cF w b m) (hm:m.length≤1048576) (hwf: ∀ p∈m,(Lit.int j_ p.1).wf=true):
  k_ J3 99 #[a_ #[i_ j_ Me,.map (o_ b)]] w fun e w'=> ∃ a cap,e=r_ (s_ a m.length cap)∧w'.ownsRow w.heap.size 164 1 (s_ a m.length cap) m.length (m.map fun p=>dt p.2)∧B_ w.heap.size w w':=by
 obtain ⟨i0,hi,e0⟩:=Kw.1 wt;simp only [Kx] at e0;have HI:Hid (Tryz.prog.info? 164=o_ i0∧i0.zero=o_ (p_ n_)∧i0.size=1∧i0.bytes=8):=⟨hi,e0⟩
 have HM:Hid (cF w b m∧ ∀ p∈m,(Lit.int j_ p.1).wf=true):=⟨h,hwf⟩
 have hbl:b < w.heap.size:=h.lt;clear hi e0 h hwf
 go_enter func99,ntmps99
 go_wp2_with (go_at_call 151; refine (tr _ _).mono ?_; rintro e w' ⟨rfl,rfl⟩);refine (oF (w.heap.size+1) b m _ (by simp) (by simp) (HM.I.1.below (((Kp _ w).alloc (Ki _) _).alloc (by simp) _)) hm).mono ?_;rintro e w2 ⟨v,rfl,hown,hb2⟩;have cy:Hid (B_ w.heap.size w w2):=(((Kp _ w).alloc (Ki _) _).alloc (by simp) _).trans (hb2.mono ZcJ);have HS:Hid (w2.heap[w.heap.size]? =o_ (c_ #[i_ j_ Me,.map (o_ b)] 87)):=(hb2.block _ ZcJ).trans ((PU (by simp)).trans (Kj _ _));obtain ⟨a,cap,hv,hrow⟩:=cr hown;have HR:Hid (Row w2 a (m.map fun p=> i_ j_ p.1)):=hrow;rw [hv];clear hv hown hrow hb2 v;go_wp2_with fail
 go_loopw [3,11] (fun l i wr=> ∃ k:Nat,k≤m.length∧i=i_ j_ k∧ ∃ a' cap',l=s_ a' k cap'∧Hid (wr.ownsRow w2.heap.size 164 1 (s_ a' k cap') k ((m.take k).map fun p=>dt p.2)∧B_ w2.heap.size w2 wr)) (fun _ i _=>m.length - (intOf i).toNat)
 case atStart=>exact ⟨0,Ky _,rfl,n_,0,rfl,⟨Ke _ _ _ _,Kp _ _⟩⟩
 case round=>
  obtain ⟨k,hk,rfl,a',cap',rfl,HO⟩:=hrel;by_cases hlt:k < m.length
  ·have qE:(0:Int)≤(k:Int):=by omega
   have i1:(k:Int) < (m.length:Int):=by omega
   obtain ⟨p,hp⟩: ∃ p,m[k]? =o_ p:=⟨_,Kz hlt⟩
   have hpm:=KA hp;obtain ⟨g,ha,hc⟩:=(HR.I.below HO.I.2) k (i_ j_ p.1) Zdk;subst ha;have oE:=cy.I.size;have kT:=HO.I.2.size;have ut:cF wr b m:=HM.I.1.below (cy.I.trans (HO.I.2.mono oE));have hlk:=ut.look underlying85 (pS wr) (HM.I.2 p hpm) false;rw [jI ut.2 hpm] at hlk;have hsw:wr.heap[w.heap.size]? =o_ (c_ #[i_ j_ Me,.map (o_ b)] 87):=(HO.I.2.block _ (J2.1 HS.I).1).trans HS.I;have s1:wr.cell? ⟨w.heap.size,1,n_⟩=o_ (.map (o_ b)):=by simp [World.cell?,hsw]
   have HP:Hid (m[k]? =o_ p):=hp;simp only [qz,dt,J5,if_false] at hlk;clear hp hpm ut hsw;go_wp2_with (at_builtin; refine KD _ rfl _ _ 198 rfl w2.heap.size 164 i0 (p_ n_) 1 8 underlying198 HI.I.1 HI.I.2.1 HI.I.2.2.1 HI.I.2.2.2 rfl (by decide) (s_ a' k cap') k ((m.take k).map fun p=>dt p.2) rfl (HO.I.1.alloc _) ⟨wr.heap.size,0,n_⟩ 1 1 [p_ (o_ ⟨p.2,0,n_⟩)] (by rfl) rfl (KE (cs:= #[p_ (o_ ⟨p.2,0,n_⟩)]) (t:=164) (fr:=(0,0)) (Kj wr _)) ZcT ZcL (by omega) ZcJ ?_; intro v' w5 hown' hgrow hnil jV; obtain ⟨a5,im,rfl,-⟩:=cr hown'; have HN:Hid (w5.ownsRow w2.heap.size 164 1 (s_ a5 (k+1) im) (k+1) ((m.take (k+1)).map fun p=>dt p.2)∧B_ w2.heap.size w2 w5):=⟨by rw [cj HP.I,Kl]; exact hown',(HO.I.2.alloc kT _).grown hgrow ZcJ (fun q hq=>(HO.I.1.lt q hq).1)⟩; clear hown' hgrow hnil jV);exact m_
  ·exact rg
theorem wq (mb:Option Nat) (W:w_):k_ J3 152 #[.map mb] W fun e w'=>e=r_ (.func (.func 187) #[] #[p_ (o_ ⟨W.heap.size,0,n_⟩)])∧w'=W.alloc (c_ #[.map mb] 88):=
 (LO (n:=5)).1 (RC Tryz.keysPort Fence.wide 5 trivial rfl mb W)
theorem pY (Bm b:Nat) (m:df) (W:w_) (hBm:Bm < W.heap.size) (hc:W.cell? ⟨Bm,0,n_⟩=o_ (.map (o_ b))) (h:cF W b m) (hm:m.length≤1048576):
  k_ J3 115 #[.func (.func 187) #[] #[p_ (o_ ⟨Bm,0,n_⟩)]] W fun e w'=> ∃ v:v_,e=r_ v∧w'.ownsRow W.heap.size 2 1 v m.length (m.map fun p=> i_ j_ p.1)∧B_ W.heap.size W w':=by
 have hsz:Maps.size (gA m)=m.length:=size_map m;have hseq:SeqGives Fence.wide 2 J3 187 #[p_ (o_ ⟨Bm,0,n_⟩)] encZ (fun ss=>ss.Perm (intKeys (gA m))) (Maps.size (gA m)) W:=
  RD (ρ:=Tryz.keysPort_ren) { Tryz.keysPort with } Fence.wide _ trivial rfl (by omega) Bm b m.length (gA m) W hBm hc h.1
 have cS:=RE Tryz.sortedA Fence.wide 5 trivial trivial trivial trivial rfl (by omega) (Tryz.sortsA _) (LP func168 ZcI rfl) 187 #[p_ (o_ ⟨Bm,0,n_⟩)] trivial (LP func187 ZcI rfl) _ _ ZcX Zdl _ hseq
 exact nv
theorem BK:(Tryz.prog.info? 172).map (fun i=>(i.zero,i.size,i.bytes))=o_ (o_ (p_ n_),1,8):=by kernel_rfl
theorem Bx (Me:Int) (b:Nat) (m:df) (w:w_) (h:cF w b m) (hm:m.length≤1048576) (hwf: ∀ p∈m,(Lit.int j_ p.1).wf=true):
  k_ J3 100 #[a_ #[i_ j_ Me,.map (o_ b)]] w fun e w'=> ∃ a cap,e=r_ (s_ a m.length cap)∧w'.ownsRow w.heap.size 172 1 (s_ a m.length cap) m.length (m.map fun p=>dt p.2)∧B_ w.heap.size w w':=by
 obtain ⟨i0,hi,e0⟩:=Kw.1 BK;simp only [Kx] at e0;have HI:Hid (Tryz.prog.info? 172=o_ i0∧i0.zero=o_ (p_ n_)∧i0.size=1∧i0.bytes=8):=⟨hi,e0⟩
 have HM:Hid (cF w b m∧ ∀ p∈m,(Lit.int j_ p.1).wf=true):=⟨h,hwf⟩
 have hbl:b < w.heap.size:=h.lt;clear hi e0 h hwf
 go_enter func100,ntmps100
 go_wp2_with (go_at_call 152; refine (wq _ _).mono ?_; rintro e w' ⟨rfl,rfl⟩);refine (pY (w.heap.size+1) b m _ (by simp) (by simp) (HM.I.1.below (((Kp _ w).alloc (Ki _) _).alloc (by simp) _)) hm).mono ?_;rintro e w2 ⟨v,rfl,hown,hb2⟩;have cy:Hid (B_ w.heap.size w w2):=(((Kp _ w).alloc (Ki _) _).alloc (by simp) _).trans (hb2.mono ZcJ);have HS:Hid (w2.heap[w.heap.size]? =o_ (c_ #[i_ j_ Me,.map (o_ b)] 90)):=(hb2.block _ ZcJ).trans ((PU (by simp)).trans (Kj _ _));obtain ⟨a,cap,hv,hrow⟩:=cr hown;have HR:Hid (Row w2 a (m.map fun p=> i_ j_ p.1)):=hrow;rw [hv];clear hv hown hrow hb2 v;go_wp2_with fail
 go_loopw [3,11] (fun l i wr=> ∃ k:Nat,k≤m.length∧i=i_ j_ k∧ ∃ a' cap',l=s_ a' k cap'∧Hid (wr.ownsRow w2.heap.size 172 1 (s_ a' k cap') k ((m.take k).map fun p=>dt p.2)∧B_ w2.heap.size w2 wr)) (fun _ i _=>m.length - (intOf i).toNat)
 case atStart=>exact ⟨0,Ky _,rfl,n_,0,rfl,⟨Ke _ _ _ _,Kp _ _⟩⟩
 case round=>
  obtain ⟨k,hk,rfl,a',cap',rfl,HO⟩:=hrel;by_cases hlt:k < m.length
  ·have qE:(0:Int)≤(k:Int):=by omega
   have i1:(k:Int) < (m.length:Int):=by omega
   obtain ⟨p,hp⟩: ∃ p,m[k]? =o_ p:=⟨_,Kz hlt⟩
   have hpm:=KA hp;obtain ⟨g,ha,hc⟩:=(HR.I.below HO.I.2) k (i_ j_ p.1) Zdk;subst ha;have oE:=cy.I.size;have kT:=HO.I.2.size;have ut:cF wr b m:=HM.I.1.below (cy.I.trans (HO.I.2.mono oE));have hlk:=ut.look underlying88 (sK wr) (HM.I.2 p hpm) false;rw [jI ut.2 hpm] at hlk;have hsw:wr.heap[w.heap.size]? =o_ (c_ #[i_ j_ Me,.map (o_ b)] 90):=(HO.I.2.block _ (J2.1 HS.I).1).trans HS.I;have s1:wr.cell? ⟨w.heap.size,1,n_⟩=o_ (.map (o_ b)):=by simp [World.cell?,hsw]
   have HP:Hid (m[k]? =o_ p):=hp;simp only [qz,dt,J5,if_false] at hlk;clear hp hpm ut hsw;go_wp2_with (at_builtin; refine KD _ rfl _ _ 200 rfl w2.heap.size 172 i0 (p_ n_) 1 8 underlying200 HI.I.1 HI.I.2.1 HI.I.2.2.1 HI.I.2.2.2 rfl (by decide) (s_ a' k cap') k ((m.take k).map fun p=>dt p.2) rfl (HO.I.1.alloc _) ⟨wr.heap.size,0,n_⟩ 1 1 [p_ (o_ ⟨p.2,0,n_⟩)] (by rfl) rfl (KE (cs:= #[p_ (o_ ⟨p.2,0,n_⟩)]) (t:=172) (fr:=(0,0)) (Kj wr _)) ZcT ZcL (by omega) ZcJ ?_; intro v' w5 hown' hgrow hnil jV; obtain ⟨a5,im,rfl,-⟩:=cr hown'; have HN:Hid (w5.ownsRow w2.heap.size 172 1 (s_ a5 (k+1) im) (k+1) ((m.take (k+1)).map fun p=>dt p.2)∧B_ w2.heap.size w2 w5):=⟨by rw [cj HP.I,Kl]; exact hown',(HO.I.2.alloc kT _).grown hgrow ZcJ (fun q hq=>(HO.I.1.lt q hq).1)⟩; clear hown' hgrow hnil jV);exact m_
  ·exact rg
end
end Go.Proofs.YtgdmbemagdbmaaaGreatDoor
