/- What the proof leans on, part 18. -/
import Derived.Test.YtkbcplnlehdjfaaGreatOwnP14
set_option maxRecDepth 100000
set_option maxHeartbeats 8000000
open Array renaming getElem?_eq_some_iff->J2
open Go renaming bodyPost_ret->KT
open Go.Proofs.Tryz renaming prog->J3
open Option.some renaming inj->KC

namespace Go.Proofs.YtkbcplnlehdjfaaGreat
open Go.RowKit
attribute [local go_sem ↓] Go.wp_at_zero Go.wp_at_succ
def Ho (w:World) (Me:Int) (list:List ao) (k:Nat) (wr:World):Prop:=
 ∃ l:List (ao × Nat),l.map (·.1)=list.take k∧eS aX (fun x:ao=>x.id) 43 110 w wr Me l∧aw (fun x:ao=>x.id) (fun x:ao=>cH x.toaD) 0 (list.take k)=true∧(k:Int)≤max Me 0
theorem tw (a:Option Addr) (list:List ao) (cap:Nat) (Me:Int) (w:World) (hl:list.length≤1048576) (h:bg.bU w a list) (hf: ∀ x∈list,eL w x) (hw: ∀ x∈list,(Lit.int .i64 x.id).wf=true):
  Calls J3 147 #[.slice a list.length cap,.int .i64 Me] w fun e w'=>jN aX (fun x:ao=>x.id) 43 w Me (aw (fun x:ao=>x.id) (fun x:ao=>cH x.toaD) 0 list && decide ((list.length:Int)≤max Me 0)) list e w':=by
 have hmk:=run_makeMap (P:=J3) 108;have hmn:=ob;have H0:Hid (eS aX (fun x:ao=>x.id) 43 110 w (((w.alloc (.cells #[.int .i64 0,.map none] 110)).alloc (.map #[] 0)).alloc (.cells #[.int .i64 Me,.map (some (w.heap.size+1))] 110)) Me []):=eS.start 110 w Me;have HL:Hid (bg.bU w a list∧(∀ x∈list,eL w x)∧ ∀ x∈list,(Lit.int .i64 x.id).wf=true):=⟨h,hf,hw⟩
 clear h hf hw
 go_enter Tryz.func147,Tryz.ntmps147
 go_wp2_with fail
 go_loopw [7,15] (fun last i wr=> ∃ k:Nat,k≤list.length∧i= .int .i64 k∧last= .int .i64 (bW (fun x:ao=>x.id) 0 (list.take k))∧Hid (Ho w Me list k wr)) (fun _ i _=>list.length - (intOf i).toNat)
 case atStart=>exact ⟨0,Nat.zero_le _,rfl,rfl,⟨[],by simp,H0.I,rfl,by simp; omega⟩⟩
 case round=>
  clear H0 hmk;obtain ⟨k,hk,rfl,rfl,HA⟩:=hrel;obtain ⟨l,hlm,hin,oC,hkm⟩:=HA.I;have HT:Hid (l.map (·.1)=list.take k∧aw (fun x:ao=>x.id) (fun x:ao=>cH x.toaD) 0 (list.take k)=true∧(k:Int)≤max Me 0):=⟨hlm,oC,hkm⟩
  have HI:Hid (eS aX (fun x:ao=>x.id) 43 110 w wr Me l):=hin;clear HA hlm hin oC hkm;by_cases hlt:k < list.length
  ·have i0:(0:Int)≤(k:Int):=by omega
   have i1:(k:Int) < (list.length:Int):=by omega
   obtain ⟨x,hx⟩: ∃ x,list[k]? =some x:=⟨_,List.getElem?_eq_getElem hlt⟩
   have hmem:=List.mem_of_getElem? hx;have HX:Hid (list[k]? =some x):=hx;have HF:Hid (eL w x∧(Lit.int .i64 x.id).wf=true):=⟨HL.I.2.1 x hmem,HL.I.2.2 x hmem⟩
   obtain ⟨gs,ha,hat⟩:=cn (HL.I.1.below HI.I.cd) hx;obtain ⟨c0,c1,c2,c3,c4,c5,c6,c7,c8,c9,qF,pe⟩:=hat;subst ha;clear hx hmem;go_wp2_with fail;refine (iK x _).mono ?_;rintro e w2 ⟨rfl,hb2⟩;have jA:Hid (eS aX (fun x:ao=>x.id) 43 110 w w2 Me l):=(HI.I.below ((Below.refl _ wr).alloc (Nat.le_refl _) (.cells x.row 43))).below hb2;have HB:Hid (w2.heap[wr.heap.size]? =some (.cells (aX x) 43 (0,0))):=(hb2.block _ (by simp)).trans (heap_alloc_new _ _);have HZ:Hid (w.heap.size+1 < wr.heap.size):=by show w.heap.size+1 < wr.heap.size; have:=(J2.1 HI.I.var).1; omega
   clear hb2 HI c0 c1 c2 c3 c4 c5 c6 c7 c8 c9 qF pe;obtain ⟨d0,d1,d2,d3,d4,d5,d6,d7,d8,d9,tH,tS⟩:=bo HB.I;obtain ⟨r0,r1,v0,v1,z0,z1⟩:=jA.I.cells;by_cases hle:x.id≤bW (fun x:ao=>x.id) 0 (list.take k)
   ·have HN:Hid ((aw (fun x:ao=>x.id) (fun x:ao=>cH x.toaD) 0 list && decide ((list.length:Int)≤max Me 0))=false):=by
     show _=false
     rw [bS HX.I (fun hh=>absurd hh.2.1 (by show ¬ bW (fun x:ao=>x.id) 0 (list.take k) < x.id; omega))]; rfl
    go_wp2;refine KT (v:= .tuple #[.agg #[.int .i64 0,.map none],.bool false]) (by simp [results,Tryz.results147,go_sem, *]) rfl ?_;exact ⟨(jA.I.lu _ _).2,.inl ⟨HN.I,rfl⟩⟩
   have j6:Hid (bW (fun x:ao=>x.id) 0 (list.take k) < x.id):=by show _ < _; omega
   have hkl:(RW (fun x:ao=>x.id) l).length≤1048576:=by
    rw [bZ]
    have:=congrArg List.length HT.I.1
    simp only [List.length_map,List.length_take] at this;omega
   go_wp2_with fail;refine (Bp Me (w.heap.size+1) (RW (fun x:ao=>x.id) l) x w2 jA.I.eh.map HF.I.2 hkl (HF.I.1.below jA.I.cd)).mono ?_;rintro e w3 ⟨rfl,hno,fm⟩;cases fW:iI Me (RW (fun x:ao=>x.id) l) x.id (cH x.toaD) with
   | false=>
    have HN:Hid ((aw (fun x:ao=>x.id) (fun x:ao=>cH x.toaD) 0 list && decide ((list.length:Int)≤max Me 0))=false):=iC HX.I HT.I.1 HT.I.2.1 j6.I fW;have Aw:Hid (eS aX (fun x:ao=>x.id) 43 110 w w3 Me l):=jA.I.below (hno fW);clear hno fm fW jA r0 r1 v0 v1 z0 z1 d0 d1 d2 d3 d4 d5 d6 d7 d8 d9 tH tS HB;obtain ⟨r0,r1,v0,v1,z0,z1⟩:=Aw.I.cells;go_wp2;refine KT (v:= .tuple #[.agg #[.int .i64 0,.map none],.bool false]) (by simp [results,Tryz.results147,go_sem, *]) rfl ?_;exact ⟨(Aw.I.lu _ _).2,.inl ⟨HN.I,rfl⟩⟩
   | true=>
    have HY:Hid (aw (fun x:ao=>x.id) (fun x:ao=>cH x.toaD) 0 (list.take (k+1))=true∧((k+1:Nat):Int)≤max Me 0):=gM HX.I HT.I.1 HT.I.2.1 j6.I fW;obtain ⟨g,ph⟩:=jA.I.lay (x:=x) (e:= .returned (.bool true)) (w':=w3) ⟨rfl,(fun h=>by cases h),fun _=>fm fW⟩ (jB HT.I.1 HT.I.2.1 j6.I);have BD:Hid (eS aX (fun x:ao=>x.id) 43 110 w w3 Me (l ++ [(x,g)])):=ph;have oh:Hid (w3.heap[wr.heap.size]? =some (.cells (aX x) 43 (0,0))):=by
     obtain ⟨g',_,_,_,hgr⟩:=fm fW;exact (hgr.block _ (J2.1 HB.I).1 (fun e=>by have:=KC e; have:=HZ.I; omega)).trans HB.I
    clear hno fm fW jA r0 r1 v0 v1 z0 z1 d0 d1 d2 d3 d4 d5 d6 d7 d8 d9 tH tS HB ph;obtain ⟨d0,d1,d2,d3,d4,d5,d6,d7,d8,d9,tH,tS⟩:=bo oh.I;go_wp2_with fail;refine (iK x _).mono ?_;rintro e w5 ⟨rfl,iJ⟩;have EY:Hid (eS aX (fun x:ao=>x.id) 43 110 w w5 Me (l ++ [(x,g)])):=BD.I.below iJ;have HE:Hid (bW (fun x:ao=>x.id) 0 (list.take (k+1))=x.id):=eG HX.I 0;clear iJ BD;go_wp2;go_roundw
    case rel=>exact ⟨k+1,by omega,by go_num,by rw [HE.I],⟨l ++ [(x,g)],by rw [List.map_append,HT.I.1,cj HX.I]; rfl,EY.I,HY.I.1,HY.I.2⟩⟩
    case measure=>simp [intOf]; omega
  ·have i1: ¬ (k:Int) < (list.length:Int):=by omega
   have HK:Hid (list.take k=list∧((list.length:Int)≤max Me 0)):=⟨List.take_of_length_le (by omega),by have:=HT.I.2.2; omega⟩
   have HY:Hid ((aw (fun x:ao=>x.id) (fun x:ao=>cH x.toaD) 0 list && decide ((list.length:Int)≤max Me 0))=true):=by
    show _=true
    have h1:=HT.I.2.1;rw [HK.I.1] at h1;rw [h1,decide_eq_true HK.I.2]; rfl
   obtain ⟨r0,r1,v0,v1,z0,z1⟩:=HI.I.cells;go_wp2;refine KT (v:= .tuple #[.agg #[.int .i64 Me,.map (some (w.heap.size+1))],.bool true]) (by simp [results,Tryz.results147,go_sem, *]) rfl ?_;exact ⟨(HI.I.lu _ _).2,.inr ⟨HY.I,w.heap.size+1,l,rfl,by rw [HT.I.1,HK.I.1],(HI.I.lu _ _).1⟩⟩
end Go.Proofs.YtkbcplnlehdjfaaGreat
