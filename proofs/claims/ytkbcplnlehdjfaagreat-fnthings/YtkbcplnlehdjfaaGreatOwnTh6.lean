/- What the proof leans on, part 6: ThB, DlThings. -/
import Derived.Test.YtkbcplnlehdjfaaGreatOwnB2
import Derived.Test.YtkbcplnlehdjfaaGreatOwnB24
import Derived.Test.YtkbcplnlehdjfaaGreatOwnB41
import Derived.Test.YtkbcplnlehdjfaaGreatOwnTh0
import Derived.Test.YtkbcplnlehdjfaaGreatOwnTh1
import Derived.Test.YtkbcplnlehdjfaaGreatOwnTh2
import Derived.Test.YtkbcplnlehdjfaaGreatOwnTh3
import Derived.Test.YtkbcplnlehdjfaaGreatOwnTh4
import Derived.Test.YtkbcplnlehdjfaaGreatOwnTh5
import Derived.Laws.Rows
import Derived.Deep.Cut
set_option maxRecDepth 100000
set_option maxHeartbeats 8000000

namespace Go.Proofs.YtkbcplnlehdjfaaGreat
open Go.RowKit Go.Maps
structure JR (w0:World) (a:Option Addr) (len:Nat) (L:List (Nat × af)) (B:List (Nat × Array Value × TypeId)) (W:World):Prop where
 ins: ∀ x∈L,o8 W x.1 w0.heap.size x.2
 box: ∀ x∈B,oc x.2.1 x.2.2 x.1 W
 low:Below w0.heap.size w0 W
 bytes:Bytes W a len
section
variable {w0 W A:World} {a:Option Addr} {len:Nat} {L:List (Nat × af)} {B:List (Nat × Array Value × TypeId)} {q:af}
theorem JR.below (h:JR w0 a len L B W) (hb:Below W.heap.size W A):JR w0 a len L B A:=
 ⟨fun x hx=>(h.ins x hx).below hb,fun x hx=>(h.box x hx).below hb,h.low.trans (hb.mono h.low.size),h.bytes.below hb⟩
theorem JR.add (h:JR w0 a len L B A) {X:Nat} (hp:o8 A X w0.heap.size q):JR w0 a len ((X,q) :: L) B A:=
 ⟨fun x hx=>(List.mem_cons.1 hx).elim (fun e=>by rw [e]; exact hp) (h.ins x),h.box,h.low,h.bytes⟩
theorem JR.addB (h:JR w0 a len L B A) {X:Nat} {cs:Array Value} {T:TypeId} (hp:oc cs T X A):JR w0 a len L ((X,cs,T) :: B) A:=
 ⟨h.ins,fun x hx=>(List.mem_cons.1 hx).elim (fun e=>by rw [e]; exact hp) (h.box x),h.low,h.bytes⟩
theorem JR.put (h:JR w0 a len L B W) (hb:Below W.heap.size W A) (ho:ap A W.heap.size q):JR w0 a len ((A.heap.size,q) :: L) B ((A.alloc (.cells ar 32)).setRow A.heap.size q.cells):=by
 have hz:Below A.heap.size A ((A.alloc (.cells ar 32)).setRow A.heap.size q.cells):=below_setRow ((Below.refl _ _).alloc (Nat.le_refl _) _) (Nat.le_refl _) _
 exact ((h.below hb).below hz).add ⟨setRow_heap _ _ _ _ _ _ (heap_alloc_new _ _),(ho.lower h.low.size).below hz⟩
theorem JR.put2 (h:JR w0 a len L B W) (hb:Below W.heap.size W A) (ho:ap A W.heap.size q) {cs old:Array Value} {T:TypeId} :JR w0 a len ((A.heap.size,q) :: L) ((A.heap.size+1,cs,T) :: B) ((((A.alloc (.cells ar 32)).alloc (.cells old T)).setRow A.heap.size q.cells).setRow (A.heap.size+1) cs):=by
 have h1:Below A.heap.size A ((A.alloc (.cells ar 32)).alloc (.cells old T)):=((Below.refl _ _).alloc (Nat.le_refl _) _).alloc (by simp) _
 have h2:=below_setRow (below_setRow h1 (Nat.le_refl _) q.cells) (Nat.le_succ _) cs
 have h3:((A.alloc (.cells ar 32)).alloc (.cells old T)).heap[A.heap.size]? =some (.cells ar 32 (0,0)):=by
  rw [heap_alloc_old _ _ (by simp)]
  exact heap_alloc_new _ _
 have h4:((A.alloc (.cells ar 32)).alloc (.cells old T)).heap[A.heap.size+1]? =some (.cells old T (0,0)):=by simpa using heap_alloc_new (A.alloc (.cells ar 32)) (.cells old T)
 exact (((h.below hb).below h2).add ⟨(setRow_other _ _ _ _ (by omega)).trans (setRow_heap _ _ _ _ _ _ h3),(ho.lower h.low.size).below h2⟩).addB (setRow_heap _ _ _ _ _ _ ((setRow_other _ _ _ _ (by omega)).trans h4))
end
theorem JE {p p':aE} {R:Option aE} (h:R=cB p p') (hs:R.isSome=true):bK p=true∧bK p'=true∧R=some p':=by
 cases hc:(bK p && bK p') with
 | false=>rw [h,jh hc] at hs; exact absurd hs (by decide)
 | true=>exact ⟨((Bool.and_eq_true _ _).mp hc).1,((Bool.and_eq_true _ _).mp hc).2,h.trans (jS hc)⟩
theorem JP {m n:Nat} (h:m=n+1) (hn:n≤1048576):((m:Int) != wrap64 ((n:Int)+1))=false:=by
 have:wrap64 ((n:Int)+1)=(m:Int):=by unfold wrap64; omega
 rw [this]
 simp
theorem len_eq {m n:Nat} (h:m=n+1) (hn:n≤1048576):((m:Int) == wrap64 ((n:Int)+1))=true:=by
 have:wrap64 ((n:Int)+1)=(m:Int):=by unfold wrap64; omega
 rw [this]
 simp
theorem JZ {p q:af} {z:bD} {R:Option aE} (h:R=cB p.pure { p.pure with aj:=cA (·.id) z p.pure.aj }) (hq:q.pure=R.getD cN) (hs:R.isSome=true):bK q.pure=true∧q.aj.length=p.aj.length+1∧q.procs.length=p.procs.length∧cB q.pure { q.pure with aj:=cA (·.id) z q.pure.aj } =none:=by
 obtain ⟨-,h2,h3⟩:=JE h hs
 have hq:q.pure= { p.pure with aj:=cA (·.id) z p.pure.aj } :=by rw [hq,h3]; rfl
 have hl:=congrArg (fun x:aE=>x.aj.length) hq
 simp only [eJ,af.pure] at hl
 have hp:=congrArg (fun x:aE=>x.procs.length) hq
 simp only [af.pure,List.length_map] at hp
 have hr:bK q.pure=true:=hq ▸ h2
 refine ⟨hr,hl,hp,ox ?_⟩
 have hm:z∈q.pure.aj:=by rw [hq]; exact js.2 (.inl rfl)
 have hR:=(ch _).1 hr
 cases hc:bK { q.pure with aj:=cA (·.id) z q.pure.aj } with
 | false=>rfl
 | true=>
  have h5:=((ch _).1 hc).aj
  rw [uw (List.mem_map.2 ⟨z,hm,rfl⟩) hR.aj] at h5
  exact absurd h5 (by decide)
theorem JW {p q:af} {id:Int} {R:Option aE} (h:R=cB p.pure { p.pure with events:=cA (·.id) (⟨id,false⟩:aB) p.pure.events }) (hq:q.pure=R.getD cN) (hs:R.isSome=true):bK q.pure=true∧q.events.length=p.events.length+1:=by
 obtain ⟨-,h2,h3⟩:=JE h hs
 have hq:q.pure= { p.pure with events:=cA (·.id) (⟨id,false⟩:aB) p.pure.events } :=by rw [hq,h3]; rfl
 have hl:=congrArg (fun x:aE=>x.events.length) hq
 simp only [eJ,af.pure] at hl
 exact ⟨hq ▸ h2,hl⟩
theorem JV {p q:af} {id:Int} {R:Option aE} (h:R=cB p.pure { p.pure with ag:=cA (·.id) (⟨id,false,⟨#[]⟩⟩:az) p.pure.ag }) (hq:q.pure=R.getD cN) (hs:R.isSome=true):bK q.pure=true∧q.ag.length=p.ag.length+1:=by
 obtain ⟨-,h2,h3⟩:=JE h hs
 have hq:q.pure= { p.pure with ag:=cA (·.id) (⟨id,false,⟨#[]⟩⟩:az) p.pure.ag } :=by rw [hq,h3]; rfl
 have hl:=congrArg (fun x:aE=>x.ag.length) hq
 simp only [eJ,af.pure] at hl
 exact ⟨hq ▸ h2,hl⟩
theorem JT {p q:af} {id most:Int} {R:Option aE} (h:R=cB p.pure { p.pure with ae:=bY (·.id) (⟨id,most,[]⟩:ci) p.pure.ae }) (hq:q.pure=R.getD cN) (hs:R.isSome=true):bK q.pure=true∧q.ae.length=p.ae.length+1:=by
 obtain ⟨-,h2,h3⟩:=JE h hs
 have hq:q.pure= { p.pure with ae:=bY (·.id) (⟨id,most,[]⟩:ci) p.pure.ae } :=by rw [hq,h3]; rfl
 have hl:=congrArg (fun x:aE=>x.ae.length) hq
 simp only [er,af.pure,List.length_map] at hl
 exact ⟨hq ▸ h2,hl⟩
theorem JY {p q:af} {z:aM} {R:Option aE} (h:R=cB p.pure { p.pure with ai:=bY (·.id) (⟨z.id,z.out,z.queue,z.max,[]⟩:dS) p.pure.ai }) (hq:q.pure=R.getD cN) (hs:R.isSome=true):bK q.pure=true∧q.ai.length=p.ai.length+1:=by
 obtain ⟨-,h2,h3⟩:=JE h hs
 have hq:q.pure= { p.pure with ai:=bY (·.id) (⟨z.id,z.out,z.queue,z.max,[]⟩:dS) p.pure.ai } :=by rw [hq,h3]; rfl
 have hl:=congrArg (fun x:aE=>x.ai.length) hq
 simp only [er,af.pure,List.length_map] at hl
 exact ⟨hq ▸ h2,hl⟩
end Go.Proofs.YtkbcplnlehdjfaaGreat
namespace Go.Proofs.YtkbcplnlehdjfaaGreat
open Go.RowKit Go.Maps
attribute [local go_sem ↓] Go.wp_at_zero Go.wp_at_succ
theorem JQ (a:Option Addr) (len cap:Nat) (w:World) (hb:len≤1048576→Bytes w a len):
  Calls Tryz.prog 4 #[.slice a len cap] w fun e w'=>e= .returned (.bool true)∧Below w.heap.size w w':=by
 by_cases hl:1048576 < len
 ·have hd:decide (1048576 < len)=true:=by simp [hl]
  go_enter Tryz.func4,Tryz.ntmps4
  go_wp2_with (go_at_call 20; refine (DG _ _ _ _).mono ?_; rintro e w' ⟨rfl,rfl⟩; rw [hd])
  go_ret
  exact ⟨rfl,by go_grown⟩
 have hd:decide (1048576 < len)=false:=by simp [hl]
 have HBY:Hid (Bytes w a len):=hb (by omega)
 clear hb
 have HL:Hid (len≤1048576):=(by omega:len≤1048576)
 clear hl
 go_enter Tryz.func4,Tryz.ntmps4
 go_wp2_with (go_at_call 20; refine (DG _ _ _ _).mono ?_; rintro e w' ⟨rfl,rfl⟩; rw [hd])
 have S:Hid (JR w' a len [] [] w'):=⟨by simp,by simp,Below.refl _ _,HBY.out⟩
 clear HBY hd
 have hcall:=JO a len cap w' HL.out S.out.bytes
 go_wp2_with fail
 refine hcall.mono ?_
 clear hcall
 rintro e A1 ⟨p,z,rfl,hwz,ho,hs,hb⟩
 replace S:=aA (S.out.put2 (cs:= #[.int .i64 z.id,.int .i64 z.n,.int .i64 z.max]) (old:= #[.int .i64 0,.int .i64 0,.int .i64 0]) (T:=49) hb ho)
 have HS:Hid (p.pure.Small):=hs
 have HWZ:=aA hwz
 clear hs hwz
 clear ho hb
 have s3:((A1.alloc (.cells ar 32)).alloc (.cells #[.int .i64 0,.int .i64 0,.int .i64 0] 49)).heap[A1.heap.size]? =some (.cells ar 32 (0,0)):=(((Below.refl _ _).alloc (Nat.le_refl _) _).block _ (by simp)).trans (heap_alloc_new _ _)
 have s4:((A1.alloc (.cells ar 32)).alloc (.cells #[.int .i64 0,.int .i64 0,.int .i64 0] 49)).heap[A1.heap.size+1]? =some (.cells #[.int .i64 0,.int .i64 0,.int .i64 0] 49 (0,0)):=by simpa using heap_alloc_new (A1.alloc (.cells ar 32)) (.cells #[.int .i64 0,.int .i64 0,.int .i64 0] 49)
 go_upto_region 4 with (first | (refine wpList_store_row rfl 32 (.tmp 3) (.tmp 39) rfl A1.heap.size _ _ p.cells rfl rfl s3 (by kernel_rfl) rfl (by kernel_rfl) ?_) | (refine wpList_store_row rfl 49 (.tmp 4) (.tmp 40) rfl (A1.heap.size+1) _ _ #[.int .i64 z.id,.int .i64 z.n,.int .i64 z.max] rfl rfl ((setRow_other _ _ _ _ (by omega)).trans s4) (by kernel_rfl) rfl (by kernel_rfl) ?_))
 clear s3 s4
 generalize (((A1.alloc (.cells ar 32)).alloc (.cells #[.int .i64 0,.int .i64 0,.int .i64 0] 49)).setRow A1.heap.size p.cells).setRow (A1.heap.size+1) #[.int .i64 z.id,.int .i64 z.n,.int .i64 z.max] =W1 at *
 generalize hX1b:A1.heap.size+1=J0 at *
 clear hX1b
 generalize A1.heap.size=X1 at *
 obtain ⟨R1,hR1⟩: ∃ R,Hid (R=cB p.pure { p.pure with aj:=cA (·.id) z p.pure.aj }):=⟨_,rfl⟩
 have hcall:=FC p z W1 HWZ.out (uG HS.out (S.out.ins (X1,p) (by simp)).2)
 rw [← hR1.out] at hcall
 go_wp2_with (first | (refine wpList_load_row rfl 32 (.tmp 3) rfl X1 (by rfl) 32 p.cells (0,0) _ (S.out.ins (X1,p) (by simp)).1 Tryz.underlying32 rfl (by kernel_rfl) ?_) | (refine wpList_load_row rfl 49 (.tmp 4) rfl J0 (by rfl) 49 #[.int .i64 z.id,.int .i64 z.n,.int .i64 z.max] (0,0) _ (S.out.box (J0,#[.int .i64 z.id,.int .i64 z.n,.int .i64 z.max],49) (by simp)) Tryz.underlying49 rfl (by kernel_rfl) ?_))
 refine hcall.mono ?_
 clear hcall
 rintro e A2 ⟨q,rfl,ho,hp,hb⟩
 replace S:=aA (S.out.put hb ho)
 have FR1:=aA (JZ hR1.out hp)
 have GR1:Hid (q.pure.Small):=by rw [hp,hR1.out]; exact iR
 clear ho hb hp
 go_upto_region 5 with (refine wpList_store_row rfl 32 (.tmp 5) (.tmp 45) rfl _ _ _ q.cells rfl rfl (heap_alloc_new _ _) (by kernel_rfl) rfl (by kernel_rfl) ?_)
 generalize (A2.alloc (.cells ar 32)).setRow A2.heap.size q.cells=W2 at *
 generalize A2.heap.size=X2 at *
 have hcall:=tF p z W2 _ HWZ.out HS.out (S.out.ins (X1,p) (by simp)).2
 rw [← hR1.out] at hcall
 go_wp2_with (first | (refine wpList_load_row rfl 32 (.tmp 3) rfl X1 (by rfl) 32 p.cells (0,0) _ (S.out.ins (X1,p) (by simp)).1 Tryz.underlying32 rfl (by kernel_rfl) ?_) | (refine wpList_load_row rfl 49 (.tmp 4) rfl J0 (by rfl) 49 #[.int .i64 z.id,.int .i64 z.n,.int .i64 z.max] (0,0) _ (S.out.box (J0,#[.int .i64 z.id,.int .i64 z.n,.int .i64 z.max],49) (by simp)) Tryz.underlying49 rfl (by kernel_rfl) ?_))
 refine hcall.mono ?_
 clear hcall
 rintro e A3 ⟨q1,rfl,ho,hp,hb⟩
 replace S:=aA (S.out.put hb ho)
 clear ho hb hp
 go_upto_region 6 with (refine wpList_store_row rfl 32 (.tmp 7) (.tmp 51) rfl _ _ _ q1.cells rfl rfl (heap_alloc_new _ _) (by kernel_rfl) rfl (by kernel_rfl) ?_)
 generalize (A3.alloc (.cells ar 32)).setRow A3.heap.size q1.cells=W3 at *
 generalize A3.heap.size=X3 at *
 as_aux_lemma=>
  have hcall:=JL a len cap W3 HL.out S.out.bytes
  go_wp2_with fail
  refine hcall.mono ?_
  clear hcall
  rintro e A4 ⟨p2,id,rfl,hwi,ho,-,hb⟩
  replace S:=aA (S.out.put hb ho)
  have HWI:=aA hwi
  clear hwi
  clear ho hb
  go_upto_region 7 with (first | (refine wpList_store_row rfl 32 (.tmp 9) (.tmp 56) rfl A4.heap.size _ _ p2.cells rfl rfl (heap_alloc_new _ _) (by kernel_rfl) rfl (by kernel_rfl) ?_))
  generalize (A4.alloc (.cells ar 32)).setRow A4.heap.size p2.cells=W4 at *
  generalize A4.heap.size=X4 at *
  obtain ⟨R2,hR2⟩: ∃ R,Hid (R=cB p.pure { p.pure with events:=cA (·.id) (⟨id,false⟩:aB) p.pure.events }):=⟨_,rfl⟩
  have hcall:=DN p id W4 HWI.out (uG HS.out (S.out.ins (X1,p) (by simp)).2)
  rw [← hR2.out] at hcall
  go_wp2_with (first | (refine wpList_load_row rfl 32 (.tmp 3) rfl X1 (by rfl) 32 p.cells (0,0) _ (S.out.ins (X1,p) (by simp)).1 Tryz.underlying32 rfl (by kernel_rfl) ?_))
  refine hcall.mono ?_
  clear hcall
  rintro e JB ⟨e2,rfl,ho,hp,hb⟩
  replace S:=aA (S.out.put hb ho)
  have FR2:=aA (JW hR2.out hp)
  have GR2:Hid (e2.pure.Small):=by rw [hp,hR2.out]; exact iR
  clear ho hb hp
  go_upto_region 8 with (refine wpList_store_row rfl 32 (.tmp 11) (.tmp 62) rfl _ _ _ e2.cells rfl rfl (heap_alloc_new _ _) (by kernel_rfl) rfl (by kernel_rfl) ?_)
  generalize (JB.alloc (.cells ar 32)).setRow JB.heap.size e2.cells=W5 at *
  generalize JB.heap.size=X5 at *
  have hcall:=rz p id W5 _ HWI.out HS.out (S.out.ins (X1,p) (by simp)).2
  rw [← hR2.out] at hcall
  go_wp2_with (first | (refine wpList_load_row rfl 32 (.tmp 3) rfl X1 (by rfl) 32 p.cells (0,0) _ (S.out.ins (X1,p) (by simp)).1 Tryz.underlying32 rfl (by kernel_rfl) ?_))
  refine hcall.mono ?_
  clear hcall
  rintro e JC ⟨e3,rfl,ho,hp,hb⟩
  replace S:=aA (S.out.put hb ho)
  clear ho hb hp
  go_upto_region 9 with (refine wpList_store_row rfl 32 (.tmp 13) (.tmp 68) rfl _ _ _ e3.cells rfl rfl (heap_alloc_new _ _) (by kernel_rfl) rfl (by kernel_rfl) ?_)
  generalize (JC.alloc (.cells ar 32)).setRow JC.heap.size e3.cells=W6 at *
  generalize JC.heap.size=X6 at *
  as_aux_lemma=>
   obtain ⟨R3,hR3⟩: ∃ R,Hid (R=cB p.pure { p.pure with ag:=cA (·.id) (⟨id,false,⟨#[]⟩⟩:az) p.pure.ag }):=⟨_,rfl⟩
   have hcall:=D0 p id W6 HWI.out (uG HS.out (S.out.ins (X1,p) (by simp)).2)
   rw [← hR3.out] at hcall
   go_wp2_with (first | (refine wpList_load_row rfl 32 (.tmp 3) rfl X1 (by rfl) 32 p.cells (0,0) _ (S.out.ins (X1,p) (by simp)).1 Tryz.underlying32 rfl (by kernel_rfl) ?_))
   refine hcall.mono ?_
   clear hcall
   rintro e B4 ⟨b2,rfl,ho,hp,hb⟩
   replace S:=aA (S.out.put hb ho)
   have FR3:=aA (JV hR3.out hp)
   have GR3:Hid (b2.pure.Small):=by rw [hp,hR3.out]; exact iR
   clear ho hb hp
   go_upto_region 10 with (refine wpList_store_row rfl 32 (.tmp 15) (.tmp 74) rfl _ _ _ b2.cells rfl rfl (heap_alloc_new _ _) (by kernel_rfl) rfl (by kernel_rfl) ?_)
   generalize (B4.alloc (.cells ar 32)).setRow B4.heap.size b2.cells=W7 at *
   generalize B4.heap.size=X7 at *
   have hcall:=ra p id W7 _ HWI.out HS.out (S.out.ins (X1,p) (by simp)).2
   rw [← hR3.out] at hcall
   go_wp2_with (first | (refine wpList_load_row rfl 32 (.tmp 3) rfl X1 (by rfl) 32 p.cells (0,0) _ (S.out.ins (X1,p) (by simp)).1 Tryz.underlying32 rfl (by kernel_rfl) ?_))
   refine hcall.mono ?_
   clear hcall
   rintro e JD ⟨b3,rfl,ho,hp,hb⟩
   replace S:=aA (S.out.put hb ho)
   clear ho hb hp
   go_upto_region 11 with (refine wpList_store_row rfl 32 (.tmp 17) (.tmp 80) rfl _ _ _ b3.cells rfl rfl (heap_alloc_new _ _) (by kernel_rfl) rfl (by kernel_rfl) ?_)
   generalize (JD.alloc (.cells ar 32)).setRow JD.heap.size b3.cells=W8 at *
   generalize JD.heap.size=X8 at *
   as_aux_lemma=>
    have hcall:=JI a len cap W8 HL.out S.out.bytes
    go_wp2_with fail
    refine hcall.mono ?_
    clear hcall
    rintro e JA ⟨p3,bid,most,rfl,hwb,ho,-,hb⟩
    replace S:=aA (S.out.put hb ho)
    have HWB:=aA hwb
    clear hwb
    clear ho hb
    go_upto_region 12 with (first | (refine wpList_store_row rfl 32 (.tmp 19) (.tmp 85) rfl JA.heap.size _ _ p3.cells rfl rfl (heap_alloc_new _ _) (by kernel_rfl) rfl (by kernel_rfl) ?_))
    generalize (JA.alloc (.cells ar 32)).setRow JA.heap.size p3.cells=W9 at *
    generalize JA.heap.size=X9 at *
    obtain ⟨R4,hR4⟩: ∃ R,Hid (R=cB p.pure { p.pure with ae:=bY (·.id) (⟨bid,most,[]⟩:ci) p.pure.ae }):=⟨_,rfl⟩
    have hcall:=C7 p bid most W9 HWB.out (uG HS.out (S.out.ins (X1,p) (by simp)).2)
    rw [← hR4.out] at hcall
    go_wp2_with (first | (refine wpList_load_row rfl 32 (.tmp 3) rfl X1 (by rfl) 32 p.cells (0,0) _ (S.out.ins (X1,p) (by simp)).1 Tryz.underlying32 rfl (by kernel_rfl) ?_))
    refine hcall.mono ?_
    clear hcall
    rintro e A10 ⟨c2,rfl,ho,hp,hb⟩
    replace S:=aA (S.out.put hb ho)
    have FR4:=aA (JT hR4.out hp)
    have GR4:Hid (c2.pure.Small):=by rw [hp,hR4.out]; exact iR
    clear ho hb hp
    go_upto_region 13 with (refine wpList_store_row rfl 32 (.tmp 22) (.tmp 93) rfl _ _ _ c2.cells rfl rfl (heap_alloc_new _ _) (by kernel_rfl) rfl (by kernel_rfl) ?_)
    generalize (A10.alloc (.cells ar 32)).setRow A10.heap.size c2.cells=W10 at *
    generalize A10.heap.size=X10 at *
    have hcall:=qh p bid most W10 _ HWB.out HS.out (S.out.ins (X1,p) (by simp)).2
    rw [← hR4.out] at hcall
    go_wp2_with (first | (refine wpList_load_row rfl 32 (.tmp 3) rfl X1 (by rfl) 32 p.cells (0,0) _ (S.out.ins (X1,p) (by simp)).1 Tryz.underlying32 rfl (by kernel_rfl) ?_))
    refine hcall.mono ?_
    clear hcall
    rintro e A11 ⟨c3,rfl,ho,hp,hb⟩
    replace S:=aA (S.out.put hb ho)
    clear ho hb hp
    go_upto_region 14 with (refine wpList_store_row rfl 32 (.tmp 24) (.tmp 100) rfl _ _ _ c3.cells rfl rfl (heap_alloc_new _ _) (by kernel_rfl) rfl (by kernel_rfl) ?_)
    generalize (A11.alloc (.cells ar 32)).setRow A11.heap.size c3.cells=W11 at *
    generalize A11.heap.size=X11 at *
    as_aux_lemma=>
     have hcall:=JM a len cap W11 HL.out S.out.bytes
     go_wp2_with fail
     refine hcall.mono ?_
     clear hcall
     rintro e JX ⟨p4,y,rfl,hwy,ho,-,hb⟩
     replace S:=aA (S.out.put2 (cs:= #[.int .i64 y.id,.bool y.out,.bool y.queue,.int .i64 y.max,.slice y.ak y.items.length y.aq]) (old:= #[.int .i64 0,.bool false,.bool false,.int .i64 0,.slice none 0 0]) (T:=61) hb ho)
     have HWY:=aA hwy
     clear hwy
     clear ho hb
     have s3:((JX.alloc (.cells ar 32)).alloc (.cells #[.int .i64 0,.bool false,.bool false,.int .i64 0,.slice none 0 0] 61)).heap[JX.heap.size]? =some (.cells ar 32 (0,0)):=(((Below.refl _ _).alloc (Nat.le_refl _) _).block _ (by simp)).trans (heap_alloc_new _ _)
     have s4:((JX.alloc (.cells ar 32)).alloc (.cells #[.int .i64 0,.bool false,.bool false,.int .i64 0,.slice none 0 0] 61)).heap[JX.heap.size+1]? =some (.cells #[.int .i64 0,.bool false,.bool false,.int .i64 0,.slice none 0 0] 61 (0,0)):=by simpa using heap_alloc_new (JX.alloc (.cells ar 32)) (.cells #[.int .i64 0,.bool false,.bool false,.int .i64 0,.slice none 0 0] 61)
     go_upto_region 15 with (first | (refine wpList_store_row rfl 32 (.tmp 26) (.tmp 105) rfl JX.heap.size _ _ p4.cells rfl rfl s3 (by kernel_rfl) rfl (by kernel_rfl) ?_) | (refine wpList_store_row rfl 61 (.tmp 27) (.tmp 106) rfl (JX.heap.size+1) _ _ #[.int .i64 y.id,.bool y.out,.bool y.queue,.int .i64 y.max,.slice y.ak y.items.length y.aq] rfl rfl ((setRow_other _ _ _ _ (by omega)).trans s4) (by kernel_rfl) rfl (by kernel_rfl) ?_))
     clear s3 s4
     generalize (((JX.alloc (.cells ar 32)).alloc (.cells #[.int .i64 0,.bool false,.bool false,.int .i64 0,.slice none 0 0] 61)).setRow JX.heap.size p4.cells).setRow (JX.heap.size+1) #[.int .i64 y.id,.bool y.out,.bool y.queue,.int .i64 y.max,.slice y.ak y.items.length y.aq] =W12 at *
     generalize hX12b:JX.heap.size+1=JU at *
     clear hX12b
     generalize JX.heap.size=X12 at *
     obtain ⟨R5,hR5⟩: ∃ R,Hid (R=cB p.pure { p.pure with ai:=bY (·.id) (⟨y.id,y.out,y.queue,y.max,[]⟩:dS) p.pure.ai }):=⟨_,rfl⟩
     have hcall:=E5 p y W12 HWY.out (uG HS.out (S.out.ins (X1,p) (by simp)).2)
     rw [← hR5.out] at hcall
     go_wp2_with (first | (refine wpList_load_row rfl 32 (.tmp 3) rfl X1 (by rfl) 32 p.cells (0,0) _ (S.out.ins (X1,p) (by simp)).1 Tryz.underlying32 rfl (by kernel_rfl) ?_) | (refine wpList_load_row rfl 61 (.tmp 27) rfl JU (by rfl) 61 #[.int .i64 y.id,.bool y.out,.bool y.queue,.int .i64 y.max,.slice y.ak y.items.length y.aq] (0,0) _ (S.out.box (JU,#[.int .i64 y.id,.bool y.out,.bool y.queue,.int .i64 y.max,.slice y.ak y.items.length y.aq],61) (by simp)) Tryz.underlying61 rfl (by kernel_rfl) ?_))
     refine hcall.mono ?_
     clear hcall
     rintro e A13 ⟨d2,rfl,ho,hp,hb⟩
     replace S:=aA (S.out.put hb ho)
     have FR5:=aA (JY hR5.out hp)
     have GR5:Hid (d2.pure.Small):=by rw [hp,hR5.out]; exact iR
     clear ho hb hp
     go_upto_region 16 with (refine wpList_store_row rfl 32 (.tmp 28) (.tmp 111) rfl _ _ _ d2.cells rfl rfl (heap_alloc_new _ _) (by kernel_rfl) rfl (by kernel_rfl) ?_)
     generalize (A13.alloc (.cells ar 32)).setRow A13.heap.size d2.cells=W13 at *
     generalize A13.heap.size=X13 at *
     have hcall:=nd p y W13 _ HWY.out HS.out (S.out.ins (X1,p) (by simp)).2
     rw [← hR5.out] at hcall
     go_wp2_with (first | (refine wpList_load_row rfl 32 (.tmp 3) rfl X1 (by rfl) 32 p.cells (0,0) _ (S.out.ins (X1,p) (by simp)).1 Tryz.underlying32 rfl (by kernel_rfl) ?_) | (refine wpList_load_row rfl 61 (.tmp 27) rfl JU (by rfl) 61 #[.int .i64 y.id,.bool y.out,.bool y.queue,.int .i64 y.max,.slice y.ak y.items.length y.aq] (0,0) _ (S.out.box (JU,#[.int .i64 y.id,.bool y.out,.bool y.queue,.int .i64 y.max,.slice y.ak y.items.length y.aq],61) (by simp)) Tryz.underlying61 rfl (by kernel_rfl) ?_))
     refine hcall.mono ?_
     clear hcall
     rintro e A14 ⟨d3,rfl,ho,hp,hb⟩
     replace S:=aA (S.out.put hb ho)
     clear ho hb hp
     go_upto_region 17 with (refine wpList_store_row rfl 32 (.tmp 30) (.tmp 117) rfl _ _ _ d3.cells rfl rfl (heap_alloc_new _ _) (by kernel_rfl) rfl (by kernel_rfl) ?_)
     generalize (A14.alloc (.cells ar 32)).setRow A14.heap.size d3.cells=W14 at *
     generalize A14.heap.size=X14 at *
     as_aux_lemma=>
      have n1:(R1.isSome != R1.isSome)=false:=by simp
      have n2:(R2.isSome != R2.isSome)=false:=by simp
      have n3:(R3.isSome != R3.isSome)=false:=by simp
      have n4:(R4.isSome != R4.isSome)=false:=by simp
      have n5:(R5.isSome != R5.isSome)=false:=by simp
      have HSH:=aA (gv HS.out)
      clear hR1 hR2 hR3 hR4 hR5
      go_upto_if 142 with fail
      clear n1 n2 n3 n4 n5
      go_cut [6,8] from 34 (fun _ _ wx=>Hid (JR w' a len [(X14,d3),(X13,d2),(X12,p4),(X11,c3),(X10,c2),(X9,p3),(X8,b3),(X7,b2),(X6,e3),(X5,e2),(X4,p2),(X3,q1),(X2,q),(X1,p)] [(JU,#[.int .i64 y.id,.bool y.out,.bool y.queue,.int .i64 y.max,.slice y.ak y.items.length y.aq],61),(J0,#[.int .i64 z.id,.int .i64 z.n,.int .i64 z.max],49)] wx))
      case first=>
       as_aux_lemma=>
        cases hc:R1.isSome
        ·go_wp2_with fail
         go_meet
         exact S
        ·obtain ⟨f1,f2,f3,f4⟩:=FR1.out hc
         have d2:=JP f2 HSH.out.aj
         have d3:((q.procs.length:Int) != (p.procs.length:Int))=false:=by simp [f3]
         have hcall:=FC q z _ HWZ.out (uG GR1.out (S.out.ins (X2,q) (by simp)).2)
         rw [f4] at hcall
         clear f2 f3 f4 hc
         go_wp2_with (first | (refine wpList_load_row rfl 32 (.tmp 5) rfl X2 (by rfl) 32 q.cells (0,0) _ (S.out.ins (X2,q) (by simp)).1 Tryz.underlying32 rfl (by kernel_rfl) ?_) | (refine wpList_load_row rfl 49 (.tmp 4) rfl J0 (by rfl) 49 #[.int .i64 z.id,.int .i64 z.n,.int .i64 z.max] (0,0) _ (S.out.box (J0,#[.int .i64 z.id,.int .i64 z.n,.int .i64 z.max],49) (by simp)) Tryz.underlying49 rfl (by kernel_rfl) ?_))
         refine hcall.mono ?_
         clear hcall
         rintro e U ⟨q9,rfl,ho,-,hb⟩
         replace S:=aA (S.out.put hb ho)
         clear ho hb
         go_upto_region 21 with (refine wpList_store_row rfl 32 (.tmp 32) (.tmp 147) rfl U.heap.size _ _ q9.cells rfl rfl (heap_alloc_new _ _) (by kernel_rfl) rfl (by kernel_rfl) ?_)
         generalize (U.alloc (.cells ar 32)).setRow U.heap.size q9.cells=U1 at *
         generalize U.heap.size=X9 at *
         have hcall:=FQ q _ (uG GR1.out (S.out.ins (X2,q) (by simp)).2)
         rw [f1] at hcall
         unfold af.cells at hcall
         clear f1
         obtain ⟨m0,m1,m2,m3,m4,m5,m6,m7⟩:=(S.out.ins (X2,q) (by simp)).1.cells
         obtain ⟨-,-,a2,a3,-,-,-,-⟩:=(S.out.ins (X1,p) (by simp)).1.cells
         go_wp2_with fail
         clear m0 m1 m2 m3 m4 m5 m6 m7 a2 a3
         refine hcall.mono ?_
         clear hcall
         rintro e U2 ⟨rfl,hb⟩
         replace S:=aA (S.out.below hb)
         clear hb
         obtain ⟨-,-,m2,-,-,-,-,-⟩:=(S.out.ins (X2,q) (by simp)).1.cells
         obtain ⟨-,-,a2,-,-,-,-,-⟩:=(S.out.ins (X1,p) (by simp)).1.cells
         go_wp2_with fail
         go_meet
         exact ⟨fun x hx=>S.out.ins x (List.mem_cons_of_mem _ hx),S.out.box,S.out.low,S.out.bytes⟩
      case rest=>
       as_aux_lemma=>
        clear S
        have S:=hcut
        clear hcut
        go_upto_region 23 with fail
        go_cut [207,12,14,16,18] from 34 (fun s _ _ _ _ wx=>s= .bool false∧Hid (JR w' a len [(X14,d3),(X13,d2),(X12,p4),(X11,c3),(X10,c2),(X9,p3),(X8,b3),(X7,b2),(X6,e3),(X5,e2),(X4,p2),(X3,q1),(X2,q),(X1,p)] [(JU,#[.int .i64 y.id,.bool y.out,.bool y.queue,.int .i64 y.max,.slice y.ak y.items.length y.aq],61),(J0,#[.int .i64 z.id,.int .i64 z.n,.int .i64 z.max],49)] wx))
        case first=>
         as_aux_lemma=>
          cases c2:R2.isSome
          ·skip
           cases c3:R3.isSome
           ·skip
            go_wp2_with fail
            go_meet
            exact ⟨rfl,S⟩
           ·have f3:=FR3.out c3
            have dR3:=JP f3.2 HSH.out.ag
            have hcall:=FQ b2 _ (uG GR3.out (S.out.ins (X7,b2) (by simp)).2)
            rw [f3.1] at hcall
            unfold af.cells at hcall
            clear f3 c3
            obtain ⟨m0,m1,m2,m3,m4,m5,m6,m7⟩:=(S.out.ins (X7,b2) (by simp)).1.cells
            obtain ⟨-,-,-,-,-,a5,-,-⟩:=(S.out.ins (X1,p) (by simp)).1.cells
            go_wp2_with fail
            clear m0 m1 m2 m3 m4 m5 m6 m7 a5
            refine hcall.mono ?_
            clear hcall
            rintro e VR3 ⟨rfl,hb⟩
            replace S:=aA (S.out.below hb)
            clear hb
            go_wp2_with fail
            go_meet
            exact ⟨rfl,S⟩
          ·have f2:=FR2.out c2
           have dR2:=JP f2.2 HSH.out.events
           have hcall:=FQ e2 _ (uG GR2.out (S.out.ins (X5,e2) (by simp)).2)
           rw [f2.1] at hcall
           unfold af.cells at hcall
           clear f2 c2
           obtain ⟨m0,m1,m2,m3,m4,m5,m6,m7⟩:=(S.out.ins (X5,e2) (by simp)).1.cells
           obtain ⟨-,-,-,-,a4,-,-,-⟩:=(S.out.ins (X1,p) (by simp)).1.cells
           go_wp2_with fail
           clear m0 m1 m2 m3 m4 m5 m6 m7 a4
           refine hcall.mono ?_
           clear hcall
           rintro e VR2 ⟨rfl,hb⟩
           replace S:=aA (S.out.below hb)
           clear hb
           cases c3:R3.isSome
           ·skip
            go_wp2_with fail
            go_meet
            exact ⟨rfl,S⟩
           ·have f3:=FR3.out c3
            have dR3:=JP f3.2 HSH.out.ag
            have hcall:=FQ b2 _ (uG GR3.out (S.out.ins (X7,b2) (by simp)).2)
            rw [f3.1] at hcall
            unfold af.cells at hcall
            clear f3 c3
            obtain ⟨m0,m1,m2,m3,m4,m5,m6,m7⟩:=(S.out.ins (X7,b2) (by simp)).1.cells
            obtain ⟨-,-,-,-,-,a5,-,-⟩:=(S.out.ins (X1,p) (by simp)).1.cells
            go_wp2_with fail
            clear m0 m1 m2 m3 m4 m5 m6 m7 a5
            refine hcall.mono ?_
            clear hcall
            rintro e VR3 ⟨rfl,hb⟩
            replace S:=aA (S.out.below hb)
            clear hb
            go_wp2_with fail
            go_meet
            exact ⟨rfl,S⟩
        case rest=>
         as_aux_lemma=>
          clear S
          obtain ⟨rfl,S⟩:=hcut
          go_upto_region 25 with fail
          go_cut [223,23,25] from 34 (fun s _ _ wx=>s= .bool false∧Hid (JR w' a len [(X14,d3),(X13,d2),(X12,p4),(X11,c3),(X10,c2),(X9,p3),(X8,b3),(X7,b2),(X6,e3),(X5,e2),(X4,p2),(X3,q1),(X2,q),(X1,p)] [(JU,#[.int .i64 y.id,.bool y.out,.bool y.queue,.int .i64 y.max,.slice y.ak y.items.length y.aq],61),(J0,#[.int .i64 z.id,.int .i64 z.n,.int .i64 z.max],49)] wx))
          case first=>
           as_aux_lemma=>
            cases c4:R4.isSome
            ·skip
             go_wp2_with fail
             go_meet
             exact ⟨rfl,S⟩
            ·have f4:=FR4.out c4
             have dR4:=JP f4.2 HSH.out.ae
             have hcall:=FQ c2 _ (uG GR4.out (S.out.ins (X10,c2) (by simp)).2)
             rw [f4.1] at hcall
             unfold af.cells at hcall
             clear f4 c4
             obtain ⟨m0,m1,m2,m3,m4,m5,m6,m7⟩:=(S.out.ins (X10,c2) (by simp)).1.cells
             obtain ⟨-,-,-,-,-,-,a6,-⟩:=(S.out.ins (X1,p) (by simp)).1.cells
             go_wp2_with fail
             clear m0 m1 m2 m3 m4 m5 m6 m7 a6
             refine hcall.mono ?_
             clear hcall
             rintro e VR4 ⟨rfl,hb⟩
             replace S:=aA (S.out.below hb)
             clear hb
             go_wp2_with fail
             go_meet
             exact ⟨rfl,S⟩
          case rest=>
           as_aux_lemma=>
            clear S
            obtain ⟨rfl,S⟩:=hcut
            cases c5:R5.isSome
            ·skip
             go_wp2_with fail
             go_ret
             exact ⟨al (by simp),S.out.low⟩
            ·have f5:=FR5.out c5
             have dR5:=len_eq f5.2 HSH.out.ai
             have hcall:=FQ d2 _ (uG GR5.out (S.out.ins (X13,d2) (by simp)).2)
             rw [f5.1] at hcall
             unfold af.cells at hcall
             clear f5 c5
             obtain ⟨m0,m1,m2,m3,m4,m5,m6,m7⟩:=(S.out.ins (X13,d2) (by simp)).1.cells
             obtain ⟨-,-,-,-,-,-,-,a7⟩:=(S.out.ins (X1,p) (by simp)).1.cells
             go_wp2_with fail
             clear m0 m1 m2 m3 m4 m5 m6 m7 a7
             refine hcall.mono ?_
             clear hcall
             rintro e VR5 ⟨rfl,hb⟩
             replace S:=aA (S.out.below hb)
             clear hb
             go_wp2_with fail
             go_ret
             exact ⟨al (by simp),S.out.low⟩
end Go.Proofs.YtkbcplnlehdjfaaGreat
