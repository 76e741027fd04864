/- What the proof leans on, part 3: DlThings. -/
import Derived.Test.YtkbcplnlehdjfaaGreatOwnC19
import Derived.Test.YtkbcplnlehdjfaaGreatOwnTh1
import Derived.Test.YtkbcplnlehdjfaaGreatOwnTh2
import Derived.Laws.Rows
import Derived.Deep.Cut
set_option maxRecDepth 100000
set_option maxHeartbeats 8000000
open Go renaming heap_alloc_new->Kj,setRow_other->KH,wpList_load_row->LS
open Go.RowKit.Below renaming refl->Kp
open Nat renaming le_refl->Ki

namespace Go.Proofs.YtkbcplnlehdjfaaGreat
open Go.RowKit Go.Maps
attribute [local go_sem ↓] Go.wp_at_zero Go.wp_at_succ
theorem JQ (a:Option Addr) (len cap:Nat) (w:World) (hb:len≤1048576→Bytes w a len):
  Calls Tryz.prog 4 #[.slice a len cap] w fun e w'=>e= .returned (.bool true)∧Below w.heap.size w w':=by
 by_cases hl:1048576 < len
 ·have hd:decide (1048576 < len)=true:=by simp [hl]
  go_enter Tryz.func4,Tryz.ntmps4
  go_wp2_with (go_at_call 20; refine (DG _ _ _ _).mono ?_; rintro e w' ⟨rfl,rfl⟩; rw [hd]);go_ret;exact ⟨rfl,by go_grown⟩
 have hd:decide (1048576 < len)=false:=by simp [hl]
 have HBY:Hid (Bytes w a len):=hb (by omega);clear hb;have HL:Hid (len≤1048576):=(by omega:len≤1048576)
 clear hl
 go_enter Tryz.func4,Tryz.ntmps4
 go_wp2_with (go_at_call 20; refine (DG _ _ _ _).mono ?_; rintro e w' ⟨rfl,rfl⟩; rw [hd]);have S:Hid (JR w' a len [] [] w'):=⟨by simp,by simp,Kp _ _,HBY.out⟩
 clear HBY hd;have Mb:=JO a len cap w' HL.out S.out.bytes;go_wp2_with fail;refine Mb.mono ?_;clear Mb;rintro e A1 ⟨p,z,rfl,hwz,ho,hs,hb⟩;replace S:=aA (S.out.put2 (cs:= #[.int .i64 z.id,.int .i64 z.n,.int .i64 z.max]) (old:= #[.int .i64 0,.int .i64 0,.int .i64 0]) (T:=49) hb ho);have HS:Hid (p.pure.Small):=hs;have HWZ:=aA hwz;clear hs hwz;clear ho hb;have s3:((A1.alloc (.cells ar 32)).alloc (.cells #[.int .i64 0,.int .i64 0,.int .i64 0] 49)).heap[A1.heap.size]? =some (.cells ar 32 (0,0)):=(((Kp _ _).alloc (Ki _) _).block _ (by simp)).trans (Kj _ _);have s4:((A1.alloc (.cells ar 32)).alloc (.cells #[.int .i64 0,.int .i64 0,.int .i64 0] 49)).heap[A1.heap.size+1]? =some (.cells #[.int .i64 0,.int .i64 0,.int .i64 0] 49 (0,0)):=by simpa using Kj (A1.alloc (.cells ar 32)) (.cells #[.int .i64 0,.int .i64 0,.int .i64 0] 49)
 go_upto_region 4 with (first | (refine ec 3 39 A1.heap.size p.cells s3 ?_) | (refine wpList_store_row rfl 49 (.tmp 4) (.tmp 40) rfl (A1.heap.size+1) _ _ #[.int .i64 z.id,.int .i64 z.n,.int .i64 z.max] rfl rfl ((KH _ _ _ _ (by omega)).trans s4) (by kernel_rfl) rfl (by kernel_rfl) ?_));clear s3 s4;generalize (((A1.alloc (.cells ar 32)).alloc (.cells #[.int .i64 0,.int .i64 0,.int .i64 0] 49)).setRow A1.heap.size p.cells).setRow (A1.heap.size+1) #[.int .i64 z.id,.int .i64 z.n,.int .i64 z.max] =W1 at *;generalize hX1b:A1.heap.size+1=J0 at *;clear hX1b;generalize A1.heap.size=X1 at *;obtain ⟨R1,hR1⟩: ∃ R,Hid (R=cB p.pure { p.pure with aj:=cA (·.id) z p.pure.aj }):=⟨_,rfl⟩
 have Mb:=FC p z W1 HWZ.out (uG HS.out (S.out.ins (X1,p) (by simp)).2);rw [← hR1.out] at Mb;go_wp2_with (first | (refine eT 3 X1 p.cells (S.out.ins (X1,p) (by simp)).1 ?_) | (refine LS rfl 49 (.tmp 4) rfl J0 (by rfl) 49 #[.int .i64 z.id,.int .i64 z.n,.int .i64 z.max] (0,0) _ (S.out.box (J0,#[.int .i64 z.id,.int .i64 z.n,.int .i64 z.max],49) (by simp)) Tryz.underlying49 rfl (by kernel_rfl) ?_));refine Mb.mono ?_;clear Mb;rintro e A2 ⟨q,rfl,ho,hp,hb⟩;replace S:=aA (S.out.put hb ho);have FR1:=aA (JZ hR1.out hp);have GR1:Hid (q.pure.Small):=by rw [hp,hR1.out]; exact iR
 clear ho hb hp;go_upto_region 5 with (refine ec 5 45 _ q.cells (Kj _ _) ?_);generalize (A2.alloc (.cells ar 32)).setRow A2.heap.size q.cells=W2 at *;generalize A2.heap.size=X2 at *;have Mb:=tF p z W2 _ HWZ.out HS.out (S.out.ins (X1,p) (by simp)).2;rw [← hR1.out] at Mb;go_wp2_with (first | (refine eT 3 X1 p.cells (S.out.ins (X1,p) (by simp)).1 ?_) | (refine LS rfl 49 (.tmp 4) rfl J0 (by rfl) 49 #[.int .i64 z.id,.int .i64 z.n,.int .i64 z.max] (0,0) _ (S.out.box (J0,#[.int .i64 z.id,.int .i64 z.n,.int .i64 z.max],49) (by simp)) Tryz.underlying49 rfl (by kernel_rfl) ?_));refine Mb.mono ?_;clear Mb;rintro e A3 ⟨q1,rfl,ho,hp,hb⟩;replace S:=aA (S.out.put hb ho);clear ho hb hp;go_upto_region 6 with (refine ec 7 51 _ q1.cells (Kj _ _) ?_);generalize (A3.alloc (.cells ar 32)).setRow A3.heap.size q1.cells=W3 at *;generalize A3.heap.size=X3 at *
 as_aux_lemma=>
  have Mb:=JL a len cap W3 HL.out S.out.bytes;go_wp2_with fail;refine Mb.mono ?_;clear Mb;rintro e A4 ⟨p2,id,rfl,hwi,ho,-,hb⟩;replace S:=aA (S.out.put hb ho);have HWI:=aA hwi;clear hwi;clear ho hb;go_upto_region 7 with (first | (refine ec 9 56 A4.heap.size p2.cells (Kj _ _) ?_));generalize (A4.alloc (.cells ar 32)).setRow A4.heap.size p2.cells=W4 at *;generalize A4.heap.size=X4 at *;obtain ⟨R2,hR2⟩: ∃ R,Hid (R=cB p.pure { p.pure with L9:=cA (·.id) (⟨id,false⟩:aB) p.pure.L9 }):=⟨_,rfl⟩
  have Mb:=DN p id W4 HWI.out (uG HS.out (S.out.ins (X1,p) (by simp)).2);rw [← hR2.out] at Mb;go_wp2_with (first | (refine eT 3 X1 p.cells (S.out.ins (X1,p) (by simp)).1 ?_));refine Mb.mono ?_;clear Mb;rintro e JB ⟨e2,rfl,ho,hp,hb⟩;replace S:=aA (S.out.put hb ho);have FR2:=aA (JW hR2.out hp);have GR2:Hid (e2.pure.Small):=by rw [hp,hR2.out]; exact iR
  clear ho hb hp;go_upto_region 8 with (refine ec 11 62 _ e2.cells (Kj _ _) ?_);generalize (JB.alloc (.cells ar 32)).setRow JB.heap.size e2.cells=W5 at *;generalize JB.heap.size=X5 at *;have Mb:=rz p id W5 _ HWI.out HS.out (S.out.ins (X1,p) (by simp)).2;rw [← hR2.out] at Mb;go_wp2_with (first | (refine eT 3 X1 p.cells (S.out.ins (X1,p) (by simp)).1 ?_));refine Mb.mono ?_;clear Mb;rintro e JC ⟨e3,rfl,ho,hp,hb⟩;replace S:=aA (S.out.put hb ho);clear ho hb hp;go_upto_region 9 with (refine ec 13 68 _ e3.cells (Kj _ _) ?_);generalize (JC.alloc (.cells ar 32)).setRow JC.heap.size e3.cells=W6 at *;generalize JC.heap.size=X6 at *
  as_aux_lemma=>
   obtain ⟨R3,hR3⟩: ∃ R,Hid (R=cB p.pure { p.pure with ag:=cA (·.id) (⟨id,false,⟨#[]⟩⟩:az) p.pure.ag }):=⟨_,rfl⟩
   have Mb:=D0 p id W6 HWI.out (uG HS.out (S.out.ins (X1,p) (by simp)).2);rw [← hR3.out] at Mb;go_wp2_with (first | (refine eT 3 X1 p.cells (S.out.ins (X1,p) (by simp)).1 ?_));refine Mb.mono ?_;clear Mb;rintro e B4 ⟨b2,rfl,ho,hp,hb⟩;replace S:=aA (S.out.put hb ho);have FR3:=aA (JV hR3.out hp);have GR3:Hid (b2.pure.Small):=by rw [hp,hR3.out]; exact iR
   clear ho hb hp;go_upto_region 10 with (refine ec 15 74 _ b2.cells (Kj _ _) ?_);generalize (B4.alloc (.cells ar 32)).setRow B4.heap.size b2.cells=W7 at *;generalize B4.heap.size=X7 at *;have Mb:=ra p id W7 _ HWI.out HS.out (S.out.ins (X1,p) (by simp)).2;rw [← hR3.out] at Mb;go_wp2_with (first | (refine eT 3 X1 p.cells (S.out.ins (X1,p) (by simp)).1 ?_));refine Mb.mono ?_;clear Mb;rintro e JD ⟨b3,rfl,ho,hp,hb⟩;replace S:=aA (S.out.put hb ho);clear ho hb hp;go_upto_region 11 with (refine ec 17 80 _ b3.cells (Kj _ _) ?_);generalize (JD.alloc (.cells ar 32)).setRow JD.heap.size b3.cells=W8 at *;generalize JD.heap.size=X8 at *
   as_aux_lemma=>
    have Mb:=JI a len cap W8 HL.out S.out.bytes;go_wp2_with fail;refine Mb.mono ?_;clear Mb;rintro e JA ⟨p3,bid,Me,rfl,hwb,ho,-,hb⟩;replace S:=aA (S.out.put hb ho);have HWB:=aA hwb;clear hwb;clear ho hb;go_upto_region 12 with (first | (refine ec 19 85 JA.heap.size p3.cells (Kj _ _) ?_));generalize (JA.alloc (.cells ar 32)).setRow JA.heap.size p3.cells=W9 at *;generalize JA.heap.size=X9 at *;obtain ⟨R4,hR4⟩: ∃ R,Hid (R=cB p.pure { p.pure with ae:=bY (·.id) (⟨bid,Me,[]⟩:ci) p.pure.ae }):=⟨_,rfl⟩
    have Mb:=C7 p bid Me W9 HWB.out (uG HS.out (S.out.ins (X1,p) (by simp)).2);rw [← hR4.out] at Mb;go_wp2_with (first | (refine eT 3 X1 p.cells (S.out.ins (X1,p) (by simp)).1 ?_));refine Mb.mono ?_;clear Mb;rintro e A10 ⟨c2,rfl,ho,hp,hb⟩;replace S:=aA (S.out.put hb ho);have FR4:=aA (JT hR4.out hp);have GR4:Hid (c2.pure.Small):=by rw [hp,hR4.out]; exact iR
    clear ho hb hp;go_upto_region 13 with (refine ec 22 93 _ c2.cells (Kj _ _) ?_);generalize (A10.alloc (.cells ar 32)).setRow A10.heap.size c2.cells=W10 at *;generalize A10.heap.size=X10 at *;have Mb:=qh p bid Me W10 _ HWB.out HS.out (S.out.ins (X1,p) (by simp)).2;rw [← hR4.out] at Mb;go_wp2_with (first | (refine eT 3 X1 p.cells (S.out.ins (X1,p) (by simp)).1 ?_));refine Mb.mono ?_;clear Mb;rintro e A11 ⟨c3,rfl,ho,hp,hb⟩;replace S:=aA (S.out.put hb ho);clear ho hb hp;go_upto_region 14 with (refine ec 24 100 _ c3.cells (Kj _ _) ?_);generalize (A11.alloc (.cells ar 32)).setRow A11.heap.size c3.cells=W11 at *;generalize A11.heap.size=X11 at *
    as_aux_lemma=>
     have Mb:=JM a len cap W11 HL.out S.out.bytes;go_wp2_with fail;refine Mb.mono ?_;clear Mb;rintro e JX ⟨p4,y,rfl,hwy,ho,-,hb⟩;replace S:=aA (S.out.put2 (cs:= #[.int .i64 y.id,.bool y.out,.bool y.Mf,.int .i64 y.max,.slice y.ak y.Ma.length y.aq]) (old:= #[.int .i64 0,.bool false,.bool false,.int .i64 0,.slice none 0 0]) (T:=61) hb ho);have HWY:=aA hwy;clear hwy;clear ho hb;have s3:((JX.alloc (.cells ar 32)).alloc (.cells #[.int .i64 0,.bool false,.bool false,.int .i64 0,.slice none 0 0] 61)).heap[JX.heap.size]? =some (.cells ar 32 (0,0)):=(((Kp _ _).alloc (Ki _) _).block _ (by simp)).trans (Kj _ _);have s4:((JX.alloc (.cells ar 32)).alloc (.cells #[.int .i64 0,.bool false,.bool false,.int .i64 0,.slice none 0 0] 61)).heap[JX.heap.size+1]? =some (.cells #[.int .i64 0,.bool false,.bool false,.int .i64 0,.slice none 0 0] 61 (0,0)):=by simpa using Kj (JX.alloc (.cells ar 32)) (.cells #[.int .i64 0,.bool false,.bool false,.int .i64 0,.slice none 0 0] 61)
     go_upto_region 15 with (first | (refine ec 26 105 JX.heap.size p4.cells s3 ?_) | (refine wpList_store_row rfl 61 (.tmp 27) (.tmp 106) rfl (JX.heap.size+1) _ _ #[.int .i64 y.id,.bool y.out,.bool y.Mf,.int .i64 y.max,.slice y.ak y.Ma.length y.aq] rfl rfl ((KH _ _ _ _ (by omega)).trans s4) (by kernel_rfl) rfl (by kernel_rfl) ?_));clear s3 s4;generalize (((JX.alloc (.cells ar 32)).alloc (.cells #[.int .i64 0,.bool false,.bool false,.int .i64 0,.slice none 0 0] 61)).setRow JX.heap.size p4.cells).setRow (JX.heap.size+1) #[.int .i64 y.id,.bool y.out,.bool y.Mf,.int .i64 y.max,.slice y.ak y.Ma.length y.aq] =W12 at *;generalize hX12b:JX.heap.size+1=JU at *;clear hX12b;generalize JX.heap.size=X12 at *;obtain ⟨R5,hR5⟩: ∃ R,Hid (R=cB p.pure { p.pure with ai:=bY (·.id) (⟨y.id,y.out,y.Mf,y.max,[]⟩:dS) p.pure.ai }):=⟨_,rfl⟩
     have Mb:=E5 p y W12 HWY.out (uG HS.out (S.out.ins (X1,p) (by simp)).2);rw [← hR5.out] at Mb;go_wp2_with (first | (refine eT 3 X1 p.cells (S.out.ins (X1,p) (by simp)).1 ?_) | (refine LS rfl 61 (.tmp 27) rfl JU (by rfl) 61 #[.int .i64 y.id,.bool y.out,.bool y.Mf,.int .i64 y.max,.slice y.ak y.Ma.length y.aq] (0,0) _ (S.out.box (JU,#[.int .i64 y.id,.bool y.out,.bool y.Mf,.int .i64 y.max,.slice y.ak y.Ma.length y.aq],61) (by simp)) Tryz.underlying61 rfl (by kernel_rfl) ?_));refine Mb.mono ?_;clear Mb;rintro e A13 ⟨d2,rfl,ho,hp,hb⟩;replace S:=aA (S.out.put hb ho);have FR5:=aA (JY hR5.out hp);have GR5:Hid (d2.pure.Small):=by rw [hp,hR5.out]; exact iR
     clear ho hb hp;go_upto_region 16 with (refine ec 28 111 _ d2.cells (Kj _ _) ?_);generalize (A13.alloc (.cells ar 32)).setRow A13.heap.size d2.cells=W13 at *;generalize A13.heap.size=X13 at *;have Mb:=nd p y W13 _ HWY.out HS.out (S.out.ins (X1,p) (by simp)).2;rw [← hR5.out] at Mb;go_wp2_with (first | (refine eT 3 X1 p.cells (S.out.ins (X1,p) (by simp)).1 ?_) | (refine LS rfl 61 (.tmp 27) rfl JU (by rfl) 61 #[.int .i64 y.id,.bool y.out,.bool y.Mf,.int .i64 y.max,.slice y.ak y.Ma.length y.aq] (0,0) _ (S.out.box (JU,#[.int .i64 y.id,.bool y.out,.bool y.Mf,.int .i64 y.max,.slice y.ak y.Ma.length y.aq],61) (by simp)) Tryz.underlying61 rfl (by kernel_rfl) ?_));refine Mb.mono ?_;clear Mb;rintro e A14 ⟨d3,rfl,ho,hp,hb⟩;replace S:=aA (S.out.put hb ho);clear ho hb hp;go_upto_region 17 with (refine ec 30 117 _ d3.cells (Kj _ _) ?_);generalize (A14.alloc (.cells ar 32)).setRow A14.heap.size d3.cells=W14 at *;generalize A14.heap.size=X14 at *
     as_aux_lemma=>
      have n1:(R1.isSome != R1.isSome)=false:=by simp
      have n2:(R2.isSome != R2.isSome)=false:=by simp
      have n3:(R3.isSome != R3.isSome)=false:=by simp
      have n4:(R4.isSome != R4.isSome)=false:=by simp
      have n5:(R5.isSome != R5.isSome)=false:=by simp
      have HSH:=aA (gv HS.out);clear hR1 hR2 hR3 hR4 hR5
      go_upto_if 142 with fail
      clear n1 n2 n3 n4 n5
      go_cut [6,8] from 34 (fun _ _ wx=>Hid (JR w' a len [(X14,d3),(X13,d2),(X12,p4),(X11,c3),(X10,c2),(X9,p3),(X8,b3),(X7,b2),(X6,e3),(X5,e2),(X4,p2),(X3,q1),(X2,q),(X1,p)] [(JU,#[.int .i64 y.id,.bool y.out,.bool y.Mf,.int .i64 y.max,.slice y.ak y.Ma.length y.aq],61),(J0,#[.int .i64 z.id,.int .i64 z.n,.int .i64 z.max],49)] wx))
      case first=>
       as_aux_lemma=>
        cases hc:R1.isSome
        ·go_wp2_with fail
         go_meet;exact S
        ·obtain ⟨f1,f2,f3,f4⟩:=FR1.out hc
         have d2:=JP f2 HSH.out.aj;have d3:((q.L8.length:Int) != (p.L8.length:Int))=false:=by simp [f3]
         have Mb:=FC q z _ HWZ.out (uG GR1.out (S.out.ins (X2,q) (by simp)).2);rw [f4] at Mb;clear f2 f3 f4 hc;go_wp2_with (first | (refine eT 5 X2 q.cells (S.out.ins (X2,q) (by simp)).1 ?_) | (refine LS rfl 49 (.tmp 4) rfl J0 (by rfl) 49 #[.int .i64 z.id,.int .i64 z.n,.int .i64 z.max] (0,0) _ (S.out.box (J0,#[.int .i64 z.id,.int .i64 z.n,.int .i64 z.max],49) (by simp)) Tryz.underlying49 rfl (by kernel_rfl) ?_));refine Mb.mono ?_;clear Mb;rintro e U ⟨q9,rfl,ho,-,hb⟩;replace S:=aA (S.out.put hb ho);clear ho hb;go_upto_region 21 with (refine ec 32 147 U.heap.size q9.cells (Kj _ _) ?_);generalize (U.alloc (.cells ar 32)).setRow U.heap.size q9.cells=U1 at *;generalize U.heap.size=X9 at *;have Mb:=FQ q _ (uG GR1.out (S.out.ins (X2,q) (by simp)).2);rw [f1] at Mb;unfold af.cells at Mb;clear f1;obtain ⟨m0,m1,m2,m3,m4,m5,m6,m7⟩:=(S.out.ins (X2,q) (by simp)).1.cells;obtain ⟨-,-,a2,a3,-,-,-,-⟩:=(S.out.ins (X1,p) (by simp)).1.cells;go_wp2_with fail;clear m0 m1 m2 m3 m4 m5 m6 m7 a2 a3;refine Mb.mono ?_;clear Mb;rintro e U2 ⟨rfl,hb⟩;replace S:=aA (S.out.below hb);clear hb;obtain ⟨-,-,m2,-,-,-,-,-⟩:=(S.out.ins (X2,q) (by simp)).1.cells;obtain ⟨-,-,a2,-,-,-,-,-⟩:=(S.out.ins (X1,p) (by simp)).1.cells;go_wp2_with fail;go_meet;exact ⟨fun x hx=>S.out.ins x (List.mem_cons_of_mem _ hx),S.out.box,S.out.low,S.out.bytes⟩
      case rest=>
       as_aux_lemma=>
        clear S;have S:=hcut;clear hcut;go_upto_region 23 with fail
        go_cut [207,12,14,16,18] from 34 (fun s _ _ _ _ wx=>s= .bool false∧Hid (JR w' a len [(X14,d3),(X13,d2),(X12,p4),(X11,c3),(X10,c2),(X9,p3),(X8,b3),(X7,b2),(X6,e3),(X5,e2),(X4,p2),(X3,q1),(X2,q),(X1,p)] [(JU,#[.int .i64 y.id,.bool y.out,.bool y.Mf,.int .i64 y.max,.slice y.ak y.Ma.length y.aq],61),(J0,#[.int .i64 z.id,.int .i64 z.n,.int .i64 z.max],49)] wx))
        case first=>
         as_aux_lemma=>
          cases c2:R2.isSome
          ·skip
           cases c3:R3.isSome
           ·skip
            go_wp2_with fail;go_meet;exact ⟨rfl,S⟩
           ·have f3:=FR3.out c3
            have dR3:=JP f3.2 HSH.out.ag;have Mb:=FQ b2 _ (uG GR3.out (S.out.ins (X7,b2) (by simp)).2);rw [f3.1] at Mb;unfold af.cells at Mb;clear f3 c3;obtain ⟨m0,m1,m2,m3,m4,m5,m6,m7⟩:=(S.out.ins (X7,b2) (by simp)).1.cells;obtain ⟨-,-,-,-,-,a5,-,-⟩:=(S.out.ins (X1,p) (by simp)).1.cells;go_wp2_with fail;clear m0 m1 m2 m3 m4 m5 m6 m7 a5;refine Mb.mono ?_;clear Mb;rintro e VR3 ⟨rfl,hb⟩;replace S:=aA (S.out.below hb);clear hb;go_wp2_with fail;go_meet;exact ⟨rfl,S⟩
          ·have f2:=FR2.out c2
           have dR2:=JP f2.2 HSH.out.L9;have Mb:=FQ e2 _ (uG GR2.out (S.out.ins (X5,e2) (by simp)).2);rw [f2.1] at Mb;unfold af.cells at Mb;clear f2 c2;obtain ⟨m0,m1,m2,m3,m4,m5,m6,m7⟩:=(S.out.ins (X5,e2) (by simp)).1.cells;obtain ⟨-,-,-,-,a4,-,-,-⟩:=(S.out.ins (X1,p) (by simp)).1.cells;go_wp2_with fail;clear m0 m1 m2 m3 m4 m5 m6 m7 a4;refine Mb.mono ?_;clear Mb;rintro e VR2 ⟨rfl,hb⟩;replace S:=aA (S.out.below hb);clear hb;cases c3:R3.isSome
           ·skip
            go_wp2_with fail;go_meet;exact ⟨rfl,S⟩
           ·have f3:=FR3.out c3
            have dR3:=JP f3.2 HSH.out.ag;have Mb:=FQ b2 _ (uG GR3.out (S.out.ins (X7,b2) (by simp)).2);rw [f3.1] at Mb;unfold af.cells at Mb;clear f3 c3;obtain ⟨m0,m1,m2,m3,m4,m5,m6,m7⟩:=(S.out.ins (X7,b2) (by simp)).1.cells;obtain ⟨-,-,-,-,-,a5,-,-⟩:=(S.out.ins (X1,p) (by simp)).1.cells;go_wp2_with fail;clear m0 m1 m2 m3 m4 m5 m6 m7 a5;refine Mb.mono ?_;clear Mb;rintro e VR3 ⟨rfl,hb⟩;replace S:=aA (S.out.below hb);clear hb;go_wp2_with fail;go_meet;exact ⟨rfl,S⟩
        case rest=>
         as_aux_lemma=>
          clear S;obtain ⟨rfl,S⟩:=hcut;go_upto_region 25 with fail
          go_cut [223,23,25] from 34 (fun s _ _ wx=>s= .bool false∧Hid (JR w' a len [(X14,d3),(X13,d2),(X12,p4),(X11,c3),(X10,c2),(X9,p3),(X8,b3),(X7,b2),(X6,e3),(X5,e2),(X4,p2),(X3,q1),(X2,q),(X1,p)] [(JU,#[.int .i64 y.id,.bool y.out,.bool y.Mf,.int .i64 y.max,.slice y.ak y.Ma.length y.aq],61),(J0,#[.int .i64 z.id,.int .i64 z.n,.int .i64 z.max],49)] wx))
          case first=>
           as_aux_lemma=>
            cases c4:R4.isSome
            ·skip
             go_wp2_with fail;go_meet;exact ⟨rfl,S⟩
            ·have f4:=FR4.out c4
             have dR4:=JP f4.2 HSH.out.ae;have Mb:=FQ c2 _ (uG GR4.out (S.out.ins (X10,c2) (by simp)).2);rw [f4.1] at Mb;unfold af.cells at Mb;clear f4 c4;obtain ⟨m0,m1,m2,m3,m4,m5,m6,m7⟩:=(S.out.ins (X10,c2) (by simp)).1.cells;obtain ⟨-,-,-,-,-,-,a6,-⟩:=(S.out.ins (X1,p) (by simp)).1.cells;go_wp2_with fail;clear m0 m1 m2 m3 m4 m5 m6 m7 a6;refine Mb.mono ?_;clear Mb;rintro e VR4 ⟨rfl,hb⟩;replace S:=aA (S.out.below hb);clear hb;go_wp2_with fail;go_meet;exact ⟨rfl,S⟩
          case rest=>
           as_aux_lemma=>
            clear S;obtain ⟨rfl,S⟩:=hcut;cases c5:R5.isSome
            ·skip
             go_wp2_with fail;go_ret;exact ⟨al (by simp),S.out.low⟩
            ·have f5:=FR5.out c5
             have dR5:=len_eq f5.2 HSH.out.ai;have Mb:=FQ d2 _ (uG GR5.out (S.out.ins (X13,d2) (by simp)).2);rw [f5.1] at Mb;unfold af.cells at Mb;clear f5 c5;obtain ⟨m0,m1,m2,m3,m4,m5,m6,m7⟩:=(S.out.ins (X13,d2) (by simp)).1.cells;obtain ⟨-,-,-,-,-,-,-,a7⟩:=(S.out.ins (X1,p) (by simp)).1.cells;go_wp2_with fail;clear m0 m1 m2 m3 m4 m5 m6 m7 a7;refine Mb.mono ?_;clear Mb;rintro e VR5 ⟨rfl,hb⟩;replace S:=aA (S.out.below hb);clear hb;go_wp2_with fail;go_ret;exact ⟨al (by simp),S.out.low⟩
end Go.Proofs.YtkbcplnlehdjfaaGreat
