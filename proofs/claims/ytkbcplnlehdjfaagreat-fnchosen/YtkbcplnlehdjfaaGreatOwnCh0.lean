/- What the proof leans on, part 0: DwCh, DlPure, ChImpl, ChosenI, DlChosen. -/
import Derived.Test.YtkbcplnlehdjfaaGreatOwnB2
import Derived.Test.YtkbcplnlehdjfaaGreatOwnB6
import Derived.Test.YtkbcplnlehdjfaaGreatOwnB8
import Derived.Test.YtkbcplnlehdjfaaGreatOwnB13
import Derived.Test.YtkbcplnlehdjfaaGreatOwnB15
import Derived.Test.YtkbcplnlehdjfaaGreatOwnB16
import Derived.Test.YtkbcplnlehdjfaaGreatOwnB18
import Derived.Test.YtkbcplnlehdjfaaGreatOwnB19
import Derived.Test.YtkbcplnlehdjfaaGreatOwnB23
import Derived.Test.YtkbcplnlehdjfaaGreatOwnB24
import Derived.Test.YtkbcplnlehdjfaaGreatOwnB40
import Derived.Laws.Rows
import Derived.Deep.Cut
set_option maxRecDepth 100000
set_option maxHeartbeats 8000000

namespace Go.Proofs.YtkbcplnlehdjfaaGreat
open Go.RowKit Go.Maps
attribute [local go_sem ↓] Go.wp_at_zero Go.wp_at_succ
theorem vH (a:Option Addr) (len cap:Nat) (w:World) (hl:len≤1048576) (hb:Bytes w a len):
  Calls Tryz.prog 52 #[.slice a len cap] w fun e w'=> ∃ q:af,e= .returned (.agg q.cells)∧ap w' w.heap.size q∧q.pure.Small∧Below w.heap.size w w':=by
 have h5:=(Below.refl w.heap.size w).alloc (Nat.le_refl _) (.cells ar 32)
 have S:Hid (Below w.heap.size w (w.alloc (.cells ar 32))∧(w.alloc (.cells ar 32)).heap[w.heap.size]? =some (.cells ar 32 (0,0))∧(w.alloc (.cells ar 32)).heap.size=w.heap.size+1∧Bytes (w.alloc (.cells ar 32)) a len):=⟨h5,heap_alloc_new _ _,by simp,hb.below h5⟩
 clear hb h5
 go_enter Tryz.func52,Tryz.ntmps52
 go_upto_region 1 with fail
 generalize w.alloc (.cells ar 32)=A at *
 go_wp2_with fail
 refine (Gj a len cap A S.out.2.2.2).mono ?_
 rintro e A1 ⟨rfl,hb1,hr1,-⟩
 have hrl:=hr1.lt
 have hcall:=GN A.heap.size a len cap A1 hl hr1
 replace S:Hid (Below w.heap.size w A1∧A1.heap[w.heap.size]? =some (.cells ar 32 (0,0))∧A.heap.size=w.heap.size+1∧A.heap.size < A1.heap.size):=⟨S.out.1.trans (hb1.mono S.out.1.size),(hb1.block _ (by have:=S.out.2.2.1; omega)).trans S.out.2.1,S.out.2.2.1,hrl⟩
 clear hb1 hr1 hrl
 go_wp2_with fail
 refine hcall.mono ?_
 clear hcall
 rintro e A2 ⟨q,now,rfl,eu,ho,hs,hb2,-⟩
 have hz:Below A2.heap.size A2 ((A2.alloc (.cells ar 32)).setRow A2.heap.size q.cells):=below_setRow ((Below.refl _ _).alloc (Nat.le_refl _) _) (Nat.le_refl _) _
 have HD:Hid (av ((A2.alloc (.cells ar 32)).setRow A2.heap.size q.cells) A2.heap.size q∧ap ((A2.alloc (.cells ar 32)).setRow A2.heap.size q.cells) (w.heap.size+1) q∧q.pure.Small∧Below w.heap.size w ((A2.alloc (.cells ar 32)).setRow A2.heap.size q.cells)∧((A2.alloc (.cells ar 32)).setRow A2.heap.size q.cells).heap[w.heap.size]? =some (.cells ar 32 (0,0))∧w.heap.size < A2.heap.size):=by
  have h1:=S.out.2.2
  have h2:=hb2.size
  exact ⟨setRow_heap _ _ _ _ _ _ (heap_alloc_new _ _),(ho.lower (by omega)).below hz,hs,S.out.1.trans ((hb2.below (by omega) S.out.1.size).trans (hz.mono (by omega))),(hz.block _ (by omega)).trans ((hb2.block _ (by omega) (by omega)).trans S.out.2.1),by omega⟩
 clear hz ho hs hb2 eu S
 go_upto_region 3 with (refine ec 4 11 _ q.cells (heap_alloc_new _ _) ?_)
 generalize (A2.alloc (.cells ar 32)).setRow A2.heap.size q.cells=B at *
 generalize A2.heap.size=X at *
 go_wp2_with (first | (refine eT 4 X q.cells HD.out.1 ?_) | (refine ec 2 13 (w.heap.size) q.cells HD.out.2.2.2.2.1 ?_))
 refine gZ Tryz.results52 (w.heap.size) q.cells HD.out.2.2.2.2.1 ?_
 exact ⟨q,rfl,(HD.out.2.1.lower (by omega)).same fun g hg=>setRow_other _ _ _ _ (by have:=(HD.out.2.1.lt g hg).1; omega),HD.out.2.2.1,below_setRow HD.out.2.2.2.1 (Nat.le_refl _) _⟩
end Go.Proofs.YtkbcplnlehdjfaaGreat
namespace Go.Proofs.YtkbcplnlehdjfaaGreat
theorem xK: ∀ {l:List aD},jo l=none→l= [] :=by
 intro l h
 rcases List.eq_nil_or_concat l with rfl | ⟨r,x,rfl⟩
 ·rfl
 ·rw [List.concat_eq_append,ny] at h
  obtain ⟨y,hy⟩:=pN (jo r) x
  rw [hy] at h; cases h
theorem Ei {x y b:aD} (h:dF x b=true) (hy:dF y b=false):dF y x=false:=by
 unfold dF at *
 split at h <;> split at hy <;> split <;> simp only [decide_eq_true_eq,decide_eq_false_iff_not] at * <;> omega
theorem uA (x:aD):dF x x=false:=by simp [dF]
theorem xC (n:Nat): ∀ (l:List aD) (b:aD),l.length=n→jo l=some b→b∈l∧ ∀ y∈l,dF y b=false:=by
 induction n with
 | zero=>intro l b hn h; cases l with | nil=>cases h | cons=>cases hn
 | succ n ih=>
  intro l b hn h
  rcases List.eq_nil_or_concat l with rfl | ⟨r,x,rfl⟩
  ·cases hn
  ·rw [List.concat_eq_append] at h hn ⊢
   rw [ny] at h
   have hr:r.length=n:=by simpa using hn
   cases hb:jo r with
   | none=>
    rw [hb] at h
    obtain rfl:=xK hb
    obtain rfl:x=b:=Option.some.inj h
    exact ⟨by simp,fun y hy=>by simp at hy; subst hy; exact uA _⟩
   | some c=>
    obtain ⟨h1,h2⟩:=ih r c hr hb
    rw [hb] at h
    change (if dF x c=true then some x else some c)=some b at h
    by_cases ha:dF x c=true
    ·rw [if_pos ha] at h
     obtain rfl:x=b:=Option.some.inj h
     refine ⟨by simp,fun y hy=> ?_⟩
     rcases List.mem_append.1 hy with hy | hy
     ·exact Ei ha (h2 y hy)
     ·simp at hy; subst hy; exact uA _
    ·rw [if_neg ha] at h
     obtain rfl:c=b:=Option.some.inj h
     refine ⟨by simp [h1],fun y hy=> ?_⟩
     rcases List.mem_append.1 hy with hy | hy
     ·exact h2 y hy
     ·simp at hy; subst hy; simpa using ha
theorem Gz {p:aE} (h:aQ p) {b:aD} (hb:b∈p.procs):p.procs.find? (fun x=>decide (x.id=b.id))=some b:=by
 have hr:=h.kW
 revert hr hb
 generalize p.procs=l
 induction l with
 | nil=>intro hb; cases hb
 | cons y r ih=>
  intro hb hr
  rw [List.pairwise_cons] at hr
  rcases List.mem_cons.1 hb with rfl | hb
  ·simp
  ·have:=hr.1 b hb
   rw [List.find?_cons,show decide (y.id=b.id)=false from decide_eq_false (by omega)]
   exact ih hb hr.2
theorem Fe {p:aE} (h:bK p=true):((ew p (da p)).isSome == decide (0 < da p))=true∧((ew p (da p)).isSome=true→((ew p (da p)).getD uK).state=1)∧
  ∀ y∈p.procs,y.state=1→(ew p (da p)).isSome=true∧dF y ((ew p (da p)).getD uK)=false:=by
 have hr:=(ch p).1 h
 simp only [ew,da,h,if_true]
 unfold nL
 cases hb:jo (p.procs.filter fun x=>decide (x.state=1)) with
 | none=>
  have hn:=xK hb
  have hf:p.procs.find? (fun x=>decide (x.id=0))=none:=by
   rw [List.find?_eq_none]
   intro x hx e
   have h1:=bz.1 (hr.proc hx).1
   have h2:=of_decide_eq_true e
   omega
  simp only [hf]
  refine ⟨rfl,(fun e=>by cases e),fun y hy hs=> ?_⟩
  have:y∈p.procs.filter fun x=>decide (x.state=1):=List.mem_filter.2 ⟨hy,decide_eq_true hs⟩
  rw [hn] at this; cases this
 | some b=>
  obtain ⟨h1,h2⟩:=xC _ _ _ rfl hb
  obtain ⟨h3,h4⟩:=List.mem_filter.1 h1
  have h5:=bz.1 (hr.proc h3).1
  simp only [Gz hr h3]
  refine ⟨?_,fun _=>of_decide_eq_true h4,fun y hy hs=>⟨rfl,h2 y (List.mem_filter.2 ⟨hy,decide_eq_true hs⟩)⟩⟩
  rw [decide_eq_true (by omega:0 < b.id)]; rfl
theorem Ev {p:aE} (h:bK p=false):da p=0:=by simp [da,h]
theorem Ek {p:aE} (h:p.Small):(Lit.int .i64 (da p)).wf=true:=by
 unfold da
 split
 ·unfold nL
  cases hb:jo (p.procs.filter fun x=>decide (x.state=1)) with
  | none=>rfl
  | some b=>exact (h.procs b (List.mem_filter.1 (xC _ _ _ rfl hb).1).1).2.1
 ·rfl
end Go.Proofs.YtkbcplnlehdjfaaGreat
namespace Go.Proofs.YtkbcplnlehdjfaaGreat
open Go.RowKit Go.Maps
attribute [local go_sem ↓] Go.wp_at_zero Go.wp_at_succ
def tj (r:Option (ao × Nat)) (x:ao × Nat):Option (ao × Nat):=match r with
 | none=>some x
 | some b=>if dF x.1.toaD b.1.toaD then some x else some b
def li (l:List (ao × Nat)):Option (ao × Nat):=l.foldl tj none
theorem nH (l:List (ao × Nat)) (x:ao × Nat):li (l ++ [x])=tj (li l) x:=by simp [li]
theorem CV (r:Option (ao × Nat)) (x:ao × Nat): ∃ y,tj r x=some y∧(y=x∨r=some y):=by
 unfold tj
 split
 ·exact ⟨_,rfl,.inl rfl⟩
 ·split
  ·exact ⟨_,rfl,.inl rfl⟩
  ·exact ⟨_,rfl,.inr rfl⟩
theorem ql {l:List (ao × Nat)} : ∀ {k:Nat},0 < k→k≤l.length→ ∃ y,li (l.take k)=some y∧y∈l
 | 0,h,_=>absurd h (by omega)
 | k+1,_,hk=>by
  obtain ⟨x,hx⟩: ∃ x,l[k]? =some x:=⟨_,List.getElem?_eq_getElem (by omega)⟩
  rw [cj hx,nH]
  obtain ⟨y,hy,h1⟩:=CV (li (l.take k)) x
  refine ⟨y,hy,?_⟩
  rcases h1 with rfl | h1
  ·exact List.mem_of_getElem? hx
  ·by_cases h0:0 < k
   ·obtain ⟨z,hz,hm⟩:=ql h0 (by omega:k≤l.length)
    rw [hz] at h1
    cases h1
    exact hm
   ·rw [show k=0 by omega] at h1
    simp [li] at h1
theorem vj (l:List (ao × Nat)):(li l).map (fun p=>p.1.toaD)=jo (l.map fun p=>p.1.toaD):=by
 have key: ∀ (l:List (ao × Nat)) (r:Option (ao × Nat)),(l.foldl tj r).map (fun p=>p.1.toaD)=(l.map fun p=>p.1.toaD).foldl iy (r.map fun p=>p.1.toaD):=by
  intro l
  induction l with
  | nil=>intro r; rfl
  | cons x l ih=>
   intro r
   simp only [List.foldl_cons,List.map_cons,ih]
   congr 1
   cases r with
   | none=>rfl
   | some b=>
    simp only [tj,iy,Option.map_some]
    split <;> rfl
 exact key l none
def et (l:List (ao × Nat)):List (ao × Nat):=l.filter fun p=>decide (p.1.state=1)
theorem sV (l:List (ao × Nat)) (p:ao × Nat):et (l ++ [p])=et l ++ (if p.1.state=1 then [p] else []):=by
 unfold et
 rw [List.filter_append]
 by_cases h:p.1.state=1 <;> simp [h]
theorem sI (l:List (ao × Nat)):(et l).map (fun p=>p.1.toaD)=(l.map fun p=>p.1.toaD).filter fun x=>decide (x.state=1):=by
 unfold et
 rw [List.filter_map]
 rfl
theorem yX (A B:Nat) (a b:ao) (w:World) (ha:w.heap[A]? =some (.cells (aX a) 43 (0,0))) (hb:w.heap[B]? =some (.cells (aX b) 43 (0,0))):
  Calls Tryz.prog 158 #[.pointer (some ⟨A,0,none⟩),.pointer (some ⟨B,0,none⟩)] w fun e w'=>e= .returned (.bool (dF a.toaD b.toaD))∧Below w.heap.size w w':=by
 obtain ⟨-,a1,-,-,-,-,-,-,-,-,-,a11⟩:=bo ha
 obtain ⟨-,b1,-,-,-,-,-,-,-,-,-,b11⟩:=bo hb
 clear ha hb
 go_enter Tryz.func158,Tryz.ntmps158
 by_cases hp:a.prio=b.prio
 ·have e1:(a.prio != b.prio)=false:=by simp [hp]
  by_cases hs:a.since < b.since
  ·have ds:decide (a.since < b.since)=true:=decide_eq_true hs
   have HV:Hid (dF a.toaD b.toaD=true):=by show dF _ _=_; unfold dF; rw [if_pos hp]; exact ds
   clear hp hs
   go_wp2_with fail
   refine aT (fun w'=>w'=w.drew) (by kernel_rfl) rfl ?_
   iterate 9 (refine ty (v:= ?_) (some _) rfl rfl (by kernel_rfl) (fun _ _ _ h=>h) (bV (by kernel_rfl) ?_) ?_; rotate_left; (intro w0 hS0; subst hS0; go_simp; try with_reducible rfl); simp only [pt,sb,s0,s1])
   refine bk (by kernel_rfl) ?_ _
   intro w1 cm
   subst cm
   go_wp2_with fail
   refine aT (fun w'=>w'=w.drew.drew) (by kernel_rfl) rfl ?_
   iterate 10 (refine ty (v:= ?_) (some _) rfl rfl (by kernel_rfl) (fun _ _ _ h=>h) (bV (by kernel_rfl) ?_) ?_; rotate_left; (intro w0 hS0; subst hS0; go_simp; try with_reducible rfl); simp only [pt,sb,s0,s1])
   refine bk (by kernel_rfl) ?_ _
   intro w1 cm
   subst cm
   go_wp2
   go_ret
   exact ⟨al HV.out.symm,(Below.refl _ _).drew.drew⟩
  ·have ds:decide (a.since < b.since)=false:=decide_eq_false hs
   have HV:Hid (dF a.toaD b.toaD=false):=by show dF _ _=_; unfold dF; rw [if_pos hp]; exact ds
   clear hp hs
   go_wp2_with fail
   refine aT (fun w'=>w'=w.drew) (by kernel_rfl) rfl ?_
   iterate 9 (refine ty (v:= ?_) (some _) rfl rfl (by kernel_rfl) (fun _ _ _ h=>h) (bV (by kernel_rfl) ?_) ?_; rotate_left; (intro w0 hS0; subst hS0; go_simp; try with_reducible rfl); simp only [pt,sb,s0,s1])
   refine bk (by kernel_rfl) ?_ _
   intro w1 cm
   subst cm
   go_wp2_with fail
   refine aT (fun w'=>w'=w.drew.drew) (by kernel_rfl) rfl ?_
   iterate 10 (refine ty (v:= ?_) (some _) rfl rfl (by kernel_rfl) (fun _ _ _ h=>h) (bV (by kernel_rfl) ?_) ?_; rotate_left; (intro w0 hS0; subst hS0; go_simp; try with_reducible rfl); simp only [pt,sb,s0,s1])
   refine bk (by kernel_rfl) ?_ _
   intro w1 cm
   subst cm
   go_wp2
   go_ret
   exact ⟨al HV.out.symm,(Below.refl _ _).drew.drew⟩
 ·have e1:(a.prio != b.prio)=true:=by simp [hp]
  by_cases hs:b.prio < a.prio
  ·have ds:decide (b.prio < a.prio)=true:=decide_eq_true hs
   have HV:Hid (dF a.toaD b.toaD=true):=by show dF _ _=_; unfold dF; rw [if_neg hp]; exact ds
   clear hp hs
   go_wp2_with fail
   refine aT (fun w'=>w'=w.drew) (by kernel_rfl) rfl ?_
   iterate 9 (refine ty (v:= ?_) (some _) rfl rfl (by kernel_rfl) (fun _ _ _ h=>h) (bV (by kernel_rfl) ?_) ?_; rotate_left; (intro w0 hS0; subst hS0; go_simp; try with_reducible rfl); simp only [pt,sb,s0,s1])
   refine bk (by kernel_rfl) ?_ _
   intro w1 cm
   subst cm
   go_wp2_with fail
   refine aT (fun w'=>w'=w.drew.drew) (by kernel_rfl) rfl ?_
   iterate 10 (refine ty (v:= ?_) (some _) rfl rfl (by kernel_rfl) (fun _ _ _ h=>h) (bV (by kernel_rfl) ?_) ?_; rotate_left; (intro w0 hS0; subst hS0; go_simp; try with_reducible rfl); simp only [pt,sb,s0,s1])
   refine bk (by kernel_rfl) ?_ _
   intro w1 cm
   subst cm
   go_wp2
   go_ret
   exact ⟨al HV.out.symm,(Below.refl _ _).drew.drew⟩
  ·have ds:decide (b.prio < a.prio)=false:=decide_eq_false hs
   have HV:Hid (dF a.toaD b.toaD=false):=by show dF _ _=_; unfold dF; rw [if_neg hp]; exact ds
   clear hp hs
   go_wp2_with fail
   refine aT (fun w'=>w'=w.drew) (by kernel_rfl) rfl ?_
   iterate 9 (refine ty (v:= ?_) (some _) rfl rfl (by kernel_rfl) (fun _ _ _ h=>h) (bV (by kernel_rfl) ?_) ?_; rotate_left; (intro w0 hS0; subst hS0; go_simp; try with_reducible rfl); simp only [pt,sb,s0,s1])
   refine bk (by kernel_rfl) ?_ _
   intro w1 cm
   subst cm
   go_wp2_with fail
   refine aT (fun w'=>w'=w.drew.drew) (by kernel_rfl) rfl ?_
   iterate 10 (refine ty (v:= ?_) (some _) rfl rfl (by kernel_rfl) (fun _ _ _ h=>h) (bV (by kernel_rfl) ?_) ?_; rotate_left; (intro w0 hS0; subst hS0; go_simp; try with_reducible rfl); simp only [pt,sb,s0,s1])
   refine bk (by kernel_rfl) ?_ _
   intro w1 cm
   subst cm
   go_wp2
   go_ret
   exact ⟨al HV.out.symm,(Below.refl _ _).drew.drew⟩
theorem wn (a:Option Addr) (l:List (ao × Nat)) (cap:Nat) (w:World) (hl:l.length≤1048576) (hr:Row w a (l.map fun p=>dt p.2)) (hb: ∀ p∈l,w.heap[p.2]? =some (.cells (aX p.1) 43 (0,0))):
  Calls Tryz.prog 156 #[.slice a l.length cap,.func (.func 158) #[] #[]] w fun e w'=>e= .returned (.tuple #[qz ((li l).map (·.2)),.bool (decide (0 < l.length))])∧Below w.heap.size w w':=by
 have H:Hid (Row w a (l.map fun p=>dt p.2)∧ ∀ p∈l,w.heap[p.2]? =some (.cells (aX p.1) 43 (0,0))):=⟨hr,hb⟩
 clear hr hb
 go_enter Tryz.func156,Tryz.ntmps156
 go_wp2_with fail
 go_loopw [6,11] (fun b i wr=> ∃ (k:Nat) (r:Option (ao × Nat)),k≤l.length∧i= .int .i64 k∧b=qz (r.map (·.2))∧Hid (r=li (l.take k)∧Below w.heap.size w wr)) (fun _ i _=>l.length - (intOf i).toNat)
 case atStart=>exact ⟨0,none,Nat.zero_le _,rfl,rfl,⟨by simp [li],Below.refl _ _⟩⟩
 case round=>
  obtain ⟨k,r,hk,rfl,rfl,HA⟩:=hrel
  by_cases hlt:k < l.length
  ·have i0:(0:Int)≤(k:Int):=by omega
   have i1:(k:Int) < (l.length:Int):=by omega
   obtain ⟨p,hp⟩: ∃ p,l[k]? =some p:=⟨_,List.getElem?_eq_getElem hlt⟩
   obtain ⟨g,ha,hc⟩:=(H.out.1.below HA.out.2) k (dt p.2) (by simp [hp])
   subst ha
   unfold dt at hc
   have HP:Hid (l[k]? =some p∧p∈l):=⟨hp,List.mem_of_getElem? hp⟩
   clear hp
   by_cases hk0:k=0
   ·have e0:((k:Int) == 0)=true:=by simp [hk0]
    have HS:Hid (some p=li (l.take (k+1))):=by show _=_; rw [cj HP.out.1,nH,hk0]; rfl
    clear hk0
    go_wp2
    go_roundw
    case rel=>exact ⟨k+1,some p,by omega,by go_num,rfl,⟨HS.out,HA.out.2⟩⟩
    case measure=>simp [intOf]; omega
   ·have e0:((k:Int) == 0)=false:=by simp [hk0]
    obtain ⟨y,hy,hym⟩:=ql (l:=l) (by omega:0 < k) hk
    have hry:r=some y:=HA.out.1.trans hy
    subst hry
    have HQ:Hid (li (l.take k)=some y∧y∈l):=⟨hy,hym⟩
    clear hk0 hy hym
    simp only [qz,dt,Option.map_some]
    go_wp2_with fail
    refine (yX p.2 y.2 p.1 y.1 wr ((HA.out.2.block _ (Array.getElem?_eq_some_iff.1 (H.out.2 p HP.out.2)).1).trans (H.out.2 p HP.out.2)) ((HA.out.2.block _ (Array.getElem?_eq_some_iff.1 (H.out.2 y HQ.out.2)).1).trans (H.out.2 y HQ.out.2))).mono ?_
    rintro e w4 ⟨rfl,hb4⟩
    have HB4:Hid (Below w.heap.size w w4):=HA.out.2.trans (hb4.mono HA.out.2.size)
    clear hb4
    cases FT:dF p.1.toaD y.1.toaD with
    | true=>
     have HS:Hid (some p=li (l.take (k+1))):=by show _=_; rw [cj HP.out.1,nH,HQ.out.1]; simp [tj,FT]
     clear FT
     go_wp2
     go_roundw
     case rel=>exact ⟨k+1,some p,by omega,by go_num,rfl,⟨HS.out,HB4.out⟩⟩
     case measure=>simp [intOf]; omega
    | false=>
     have HS:Hid (some y=li (l.take (k+1))):=by show _=_; rw [cj HP.out.1,nH,HQ.out.1]; simp [tj,FT]
     clear FT
     go_wp2
     go_roundw
     case rel=>exact ⟨k+1,some y,by omega,by go_num,rfl,⟨HS.out,HB4.out⟩⟩
     case measure=>simp [intOf]; omega
  ·have i1: ¬ (k:Int) < (l.length:Int):=by omega
   have HE:Hid (r=li l):=by have h5:=HA.out.1; rwa [List.take_of_length_le (by omega)] at h5
   go_wp2
   go_ret2
   refine ⟨?_,HA.out.2⟩
   rw [HE.out]
   simp
theorem EA (o:Nat) (q:ol) (lp:List (ao × Nat)) (base:Nat) (w:World) (hop:fa w o q) (hsh:Shelf aX (fun x:ao=>x.id) 43 w base q.bp lp) (hl:lp.length≤1048576) (hwf: ∀ p∈keysOf (fun x:ao=>x.id) lp,(Lit.int .i64 p.1).wf=true):
  Calls Tryz.prog 157 #[.pointer (some ⟨o,0,none⟩)] w fun e w'=>(∃ a cap,e= .returned (.slice a (et lp).length cap)∧Row w' a ((et lp).map fun p=>dt p.2))∧Below w.heap.size w w':=by
 obtain ⟨i0,hi,e0⟩:=Option.map_eq_some_iff.1 sQ
 simp only [Prod.mk.injEq] at e0
 have HI:Hid (Tryz.prog.info? 102=some i0∧i0.zero=some (.pointer none)∧i0.size=1∧i0.bytes=8):=⟨hi,e0⟩
 have H:Hid (Shelf aX (fun x:ao=>x.id) 43 w base q.bp lp∧ ∀ p∈keysOf (fun x:ao=>x.id) lp,(Lit.int .i64 p.1).wf=true):=⟨hsh,hwf⟩
 have c2:w.cell? ⟨o,2,none⟩=some (.int .i64 6):=hop.cell 2
 have c3:w.cell? ⟨o,3,none⟩=some (.map (some q.bp)):=hop.cell 3
 have HK:Hid ((keysOf (fun x:ao=>x.id) lp).length=lp.length):=bZ lp
 clear hop hsh hwf hi e0
 go_enter Tryz.func157,Tryz.ntmps157
 go_wp2_with fail
 refine (mq 6 q.bp (keysOf (fun x:ao=>x.id) lp) w H.out.1.map (by rw [HK.out]; exact hl) H.out.2).mono ?_
 rintro e w2 ⟨a,cap,rfl,hown,hb2⟩
 obtain ⟨a',cap',hv,hrow⟩:=cr hown
 cases hv
 have HR:Hid (Row w2 a ((keysOf (fun x:ao=>x.id) lp).map fun p=>dt p.2)):=hrow
 have HO:Hid (Shelf aX (fun x:ao=>x.id) 43 w2 base q.bp lp∧Below w.heap.size w w2):=⟨H.out.1.below hb2,hb2⟩
 rw [HK.out]
 clear hown hrow hb2 c2 c3
 go_wp2_with fail
 go_loopw [3,12] (fun l i wr=> ∃ (k n:Nat),k≤lp.length∧n≤k∧i= .int .i64 k∧ ∃ a' cap',l= .slice a' n cap'∧Hid (n=(et (lp.take k)).length∧wr.ownsRow w2.heap.size 102 1 (.slice a' n cap') n ((et (lp.take k)).map fun p=>dt p.2)∧Below w2.heap.size w2 wr)) (fun _ i _=>lp.length - (intOf i).toNat)
 case atStart=>exact ⟨0,0,Nat.zero_le _,Nat.le_refl _,rfl,none,0,rfl,⟨rfl,World.ownsRow_nil _ _ _ _,Below.refl _ _⟩⟩
 case round=>
  obtain ⟨k,n,hk,hn,rfl,a',cap',rfl,HA⟩:=hrel
  by_cases hlt:k < lp.length
  ·have qE:(0:Int)≤(k:Int):=by omega
   have i1:(k:Int) < (lp.length:Int):=by omega
   obtain ⟨p,hp⟩: ∃ p,lp[k]? =some p:=⟨_,List.getElem?_eq_getElem hlt⟩
   obtain ⟨g,ha,hc⟩:=(HR.out.below HA.out.2.2) k (dt p.2) (by simp [keysOf,hp])
   subst ha
   unfold dt at hc
   have HP:Hid (lp[k]? =some p):=hp
   have lW:wr.heap[p.2]? =some (.cells (aX p.1) 43 (0,0)):=(HO.out.1.below HA.out.2.2).box p (List.mem_of_getElem? hp)
   obtain ⟨-,-,-,s3,-⟩:=bo lW
   have kT:=HA.out.2.2.size
   clear hp lW
   by_cases hs:p.1.state=1
   ·have e1:(p.1.state == 1)=true:=by simp [hs]
    have HRL:Hid ((et (lp.take (k+1)))=(et (lp.take k)) ++ [p]):=by show _=_; rw [cj HP.out,sV,if_pos hs]
    clear hs
    go_wp2_with (at_builtin; refine wpList_append_own_at _ rfl _ _ 204 rfl w2.heap.size 102 i0 (.pointer none) 1 8 Tryz.underlying204 HI.out.1 HI.out.2.1 HI.out.2.2.1 HI.out.2.2.2 rfl (by decide) (.slice a' n cap') n ((et (lp.take k)).map fun p=>dt p.2) rfl (HA.out.2.1.alloc _) ⟨wr.heap.size,0,none⟩ 1 1 [.pointer (some ⟨p.2,0,none⟩)] (by rfl) rfl (World.news_of_block (cs:= #[.pointer (some ⟨p.2,0,none⟩)]) (t:=102) (fr:=(0,0)) (heap_alloc_new wr _)) (by simp [Value.oneCell']) (by unfold maxLen; omega) (by omega) (by simp; omega) ?_; intro v' w5 hown' hgrow hnil jV; obtain ⟨a5,im,rfl,-⟩:=cr hown'; have HN:Hid (n+1=(et (lp.take (k+1))).length∧w5.ownsRow w2.heap.size 102 1 (.slice a5 (n+1) im) (n+1) ((et (lp.take (k+1))).map fun p=>dt p.2)∧Below w2.heap.size w2 w5):=⟨by rw [HRL.out,List.length_append,← HA.out.1]; rfl,by rw [HRL.out,List.map_append]; exact hown',(HA.out.2.2.alloc kT _).grown hgrow (by simp; omega) (fun q hq=>(HA.out.2.1.lt q hq).1)⟩; clear hown' hgrow hnil jV)
    go_roundw
    case rel=>exact ⟨k+1,n+1,by omega,by omega,by go_num,a5,im,rfl,HN⟩
    case measure=>simp [intOf]; omega
   ·have e1:(p.1.state == 1)=false:=by simp [hs]
    have HRL:Hid ((et (lp.take (k+1)))=(et (lp.take k))):=by show _=_; rw [cj HP.out,sV,if_neg hs,List.append_nil]
    clear hs
    go_wp2
    go_roundw
    case rel=>exact ⟨k+1,n,by omega,by omega,by go_num,a',cap',rfl,by show _∧_; rw [HRL.out]; exact HA.out⟩
    case measure=>simp [intOf]; omega
  ·have i1: ¬ (k:Int) < (lp.length:Int):=by omega
   have HE:Hid (n=(et lp).length∧Row wr a' ((et lp).map fun p=>dt p.2)):=by
    have h5:=HA.out
    rw [List.take_of_length_le (by omega)] at h5
    obtain ⟨b1,b2,hv,hrow⟩:=cr h5.2.1
    cases hv
    exact ⟨h5.1,hrow⟩
   go_wp2
   go_ret
   exact ⟨⟨a',⟨cap',by rw [← HE.out.1]; rfl⟩,HE.out.2⟩,HO.out.2.trans (HA.out.2.2.mono HO.out.2.size)⟩
theorem Cm (o:Nat) (q:ol) (lp:List (ao × Nat)) (base:Nat) (w:World) (hop:fa w o q) (hsh:Shelf aX (fun x:ao=>x.id) 43 w base q.bp lp) (hl:lp.length≤1048576) (hwf: ∀ p∈keysOf (fun x:ao=>x.id) lp,(Lit.int .i64 p.1).wf=true):
  Calls Tryz.prog 80 #[.pointer (some ⟨o,0,none⟩)] w fun e w'=>e= .returned (.tuple #[qz ((li (et lp)).map (·.2)),.bool (decide (0 < (et lp).length))])∧Below w.heap.size w w':=by
 have H:Hid (fa w o q∧Shelf aX (fun x:ao=>x.id) 43 w base q.bp lp∧ ∀ p∈keysOf (fun x:ao=>x.id) lp,(Lit.int .i64 p.1).wf=true):=⟨hop,hsh,hwf⟩
 have HLR:Hid ((et lp).length≤1048576):=Nat.le_trans (List.length_filter_le _ _) hl
 clear hop hsh hwf
 go_enter Tryz.func80,Tryz.ntmps80
 go_wp2_with fail
 refine (EA o q lp base w H.out.1 H.out.2.1 hl H.out.2.2).mono ?_
 rintro e w2 ⟨⟨a,cap,rfl,hr⟩,hb2⟩
 have HB:Hid (Row w2 a ((et lp).map fun p=>dt p.2)∧Below w.heap.size w w2∧ ∀ p∈et lp,w2.heap[p.2]? =some (.cells (aX p.1) 43 (0,0))):=⟨hr,hb2,fun p hp=>(H.out.2.1.below hb2).box p (List.mem_filter.1 hp).1⟩
 clear hr hb2
 go_wp2_with fail
 refine (wn a (et lp) cap w2 HLR.out HB.out.1 HB.out.2.2).mono ?_
 rintro e w3 ⟨rfl,hb3⟩
 have oh:Hid (Below w.heap.size w w3):=HB.out.2.1.trans (hb3.mono HB.out.2.1.size)
 clear hb3
 go_wp2
 go_ret2
 exact ⟨rfl,oh.out⟩
theorem vf {p:aE} (h:bK p=true): ∀ x∈p.procs,cv x.id 1 1000=true∧cH x=true:=fun x hx=>by
 have h1:=cK ((ch _).1 h).procs x hx
 have h2:=h1.2
 simp only [Bool.and_eq_true] at h2
 exact ⟨h1.1,h2.1.1⟩
theorem Ap {p:aE} (h:bK p=true) (hb:jo (p.procs.filter fun x=>decide (x.state=1) && decide (x.on=0))=none):da p=0:=by
 rw [AP fun x hx=>(vf h x hx).2] at hb
 simp only [da,h,if_true,nL,hb]
theorem AI {p:aE} {y:aD} (h:bK p=true) (hb:jo (p.procs.filter fun x=>decide (x.state=1) && decide (x.on=0))=some y):da p=y.id:=by
 rw [AP fun x hx=>(vf h x hx).2] at hb
 simp only [da,h,if_true,nL,hb]
theorem Eg {f:aD→Bool} {l:List aD} {i:Int} (h:dO f l l.length i) (hi:i < 0):jo (l.filter f)=none:=by
 unfold dO at h
 rw [List.take_length] at h
 split at h
 ·assumption
 ·obtain ⟨n,h1,_⟩:=h
  omega
theorem ov (p:af) (w:World) (hf:p.Fit) (hs: ∀ x∈p.procs,x.dX) (h:af.At w p):
  Calls Tryz.prog 53 #[.agg p.cells] w fun e w'=>e= .returned (.int .i64 (da p.pure))∧Below w.heap.size w w':=by
 have HB:Hid (av (w.alloc (.cells p.cells 32)) w.heap.size p∧af.At (w.alloc (.cells p.cells 32)) p∧Below w.heap.size w (w.alloc (.cells p.cells 32))):=⟨heap_alloc_new _ _,h.below ((Below.refl _ _).alloc (Nat.le_refl _) _),(Below.refl _ _).alloc (Nat.le_refl _) _⟩
 have fl:Hid (p.Fit∧ ∀ x∈p.procs,x.dX):=⟨hf,hs⟩
 clear h hf hs
 unfold af.cells at *
 go_enter Tryz.func53,Tryz.ntmps53
 go_wp2_with fail
 generalize w.alloc (.cells p.row 32)=W at *
 refine (eV p W fl.out.1 fl.out.2 HB.out.2.1).mono ?_
 rintro e W1 ⟨rfl,hb1⟩
 have fQ:Hid (av W1 w.heap.size p∧af.At W1 p∧Below w.heap.size w W1):=⟨HB.out.1.below hb1,HB.out.2.1.below hb1,HB.out.2.2.trans (hb1.mono HB.out.2.2.size)⟩
 clear hb1 HB
 cases h4:bK p.pure
 ·have HN:Hid (da p.pure=0):=by show da _=0; simp [da,h4]
  clear h4
  go_wp2
  go_ret
  exact ⟨ck HN.out.symm,fQ.out.2.2⟩
 have H4:Hid (bK p.pure=true):=h4
 clear h4
 obtain ⟨m0,m1,m2,m3,m4,m5,m6,m7⟩:=fQ.out.1.cells
 go_wp2_with fail
 clear m0 m1 m2 m3 m4 m5 m6 m7
 refine (ij p 1 0 W1 fl.out.1.short.procs fQ.out.2.1).mono ?_
 rintro e W2 ⟨⟨i,rfl,hbi⟩,hb2⟩
 have cy:Hid (av W2 w.heap.size p∧af.At W2 p∧Below w.heap.size w W2):=⟨fQ.out.1.below hb2,fQ.out.2.1.below hb2,fQ.out.2.2.trans (hb2.mono fQ.out.2.2.size)⟩
 have hpl:p.pure.procs.length=p.procs.length:=by simp [af.pure]
 by_cases hi:i < 0
 ·have HN:Hid (da p.pure=0):=Ap H4.out (Eg (by rw [hpl]; exact hbi) hi)
  have dz:decide (i < 0)=true:=decide_eq_true hi
  clear hbi hb2 hpl hi
  go_wp2
  go_ret
  exact ⟨ck HN.out.symm,cy.out.2.2⟩
 have dz:decide (i < 0)=false:=decide_eq_false hi
 obtain ⟨n,y0,hin,hn,hy0,hbe⟩:=hbi.got hi
 subst hin
 rw [List.take_of_length_le (by omega)] at hbe
 obtain ⟨y,hy,rfl⟩: ∃ y,p.procs[n]? =some y∧y.toaD=y0:=by
  have h5:(p.procs.map (·.toaD))[n]? =some y0:=hy0
  rw [List.getElem?_map,Option.map_eq_some_iff] at h5
  exact h5
 have HN:Hid (da p.pure=y.id):=AI H4.out hbe
 have j0:(0:Int)≤(n:Int):=by omega
 have j1:(n:Int) < (p.procs.length:Int):=by omega
 obtain ⟨gs,ha,hat⟩:=cn cy.out.2.1.1 hy
 obtain ⟨-,-,m2,-⟩:=cy.out.1.cells
 rw [ha] at m2
 have y0:=hat.1
 clear hy hy0 hbe hi hat hbi hb2 hpl ha
 go_wp2
 go_ret
 exact ⟨ck HN.out.symm,cy.out.2.2⟩
theorem Iy {S:aZ} (h:aQ S.pure): ∀ p∈keysOf (fun x:ao=>x.id) S.lp,(Lit.int .i64 p.1).wf=true:=fun p hp=>by
 obtain ⟨r,hr,rfl⟩:=List.mem_map.1 hp
 have h1:=(cK h.procs r.1.toaD (List.mem_map.2 ⟨r,hr,rfl⟩)).1
 have h2:=bz.1 h1
 have e1:IntKind.min .i64≤0:=by decide
 have e2:100000≤IntKind.max .i64:=by decide
 simp only [Lit.wf,Bool.and_eq_true,decide_eq_true_eq]
 have h3:r.1.toaD.id=r.1.id:=rfl
 omega
theorem um (p:af) (w:World) (hg:p.Good w):Calls Tryz.prog 25 #[.agg p.cells] w fun e w'=>e= .returned (.int .i64 (da p.pure))∧Below w.heap.size w w':=by
 have HG:Hid (p.Good (w.alloc (.cells p.cells 32))∧Below w.heap.size w (w.alloc (.cells p.cells 32))):=⟨hg.below ((Below.refl _ _).alloc (Nat.le_refl _) _),(Below.refl _ _).alloc (Nat.le_refl _) _⟩
 clear hg
 unfold af.cells at *
 go_enter Tryz.func25,Tryz.ntmps25
 go_wp2_with fail
 generalize w.alloc (.cells p.row 32)=W at *
 refine (iO p W HG.out.1).mono ?_
 rintro e w1 ⟨hb1,⟨hno,rfl⟩ | ⟨fm,o,S,rfl,hat,gn⟩⟩
 ·have HZ:Hid (Below w.heap.size w w1∧da p.pure=0):=⟨HG.out.2.trans (hb1.mono HG.out.2.size),by simp [da,dL hno]⟩
  clear hb1 hno
  go_wp2
  go_ret
  exact ⟨ck HZ.out.2.symm,HZ.out.1⟩
 have HZ:Hid (Below w.heap.size w w1∧aQ S.pure∧cJ w1 W.heap.size o S∧S.pure=p.pure):=⟨HG.out.2.trans (hb1.mono HG.out.2.size),by rw [gn]; exact fm,hat,gn⟩
 have DM:Hid (S.lp.length≤1048576):=by have h5:=HZ.out.2.1.dl; have h6:S.pure.procs.length=S.lp.length:=(by simp [aZ.pure]); show S.lp.length≤_; omega
 clear hb1 fm hat gn
 go_wp2_with fail
 refine (Cm o S.q S.lp W.heap.size w1 HZ.out.2.2.1.opn HZ.out.2.2.1.procs DM.out (Iy HZ.out.2.1)).mono ?_
 rintro e w2 ⟨rfl,hb2⟩
 have cy:Hid (Below w.heap.size w w2):=HZ.out.1.trans (hb2.mono HZ.out.1.size)
 by_cases hr:0 < (et S.lp).length
 ·have dr:decide (0 < (et S.lp).length)=true:=decide_eq_true hr
  obtain ⟨y,hy,hym⟩:=ql (l:=et S.lp) hr (Nat.le_refl _)
  rw [List.take_length] at hy
  have HC:Hid (da p.pure=y.1.id):=by
   have h5:=vj (et S.lp)
   rw [hy,sI] at h5
   show da _=_
   rw [← HZ.out.2.2.2]
   simp only [da,fP HZ.out.2.1,if_true,nL]
   have h6:jo (S.pure.procs.filter fun x=>decide (x.state=1))=some y.1.toaD:=h5.symm
   rw [h6]
  have lW:w2.heap[y.2]? =some (.cells (aX y.1) 43 (0,0)):=(HZ.out.2.2.1.procs.below hb2).box y (List.mem_filter.1 hym).1
  obtain ⟨s0,-⟩:=bo lW
  rw [hy,dr]
  simp only [qz,dt,Option.map_some]
  clear hb2 hr dr hy hym lW
  go_wp2
  go_ret
  exact ⟨ck HC.out.symm,cy.out⟩
 ·have dr:decide (0 < (et S.lp).length)=false:=decide_eq_false hr
  have he:et S.lp= [] :=List.eq_nil_of_length_eq_zero (by omega)
  have HC:Hid (da p.pure=0):=by
   have h5:=vj (et S.lp)
   rw [sI] at h5
   show da _=_
   rw [← HZ.out.2.2.2]
   simp only [da,fP HZ.out.2.1,if_true,nL]
   have h6:jo (S.pure.procs.filter fun x=>decide (x.state=1))=none:=by rw [show S.pure.procs=S.lp.map (·.1.toaD) from rfl,← h5,he]; rfl
   rw [h6]
  rw [dr,he]
  clear hb2 hr dr he
  go_wp2
  go_ret
  exact ⟨ck HC.out.symm,cy.out⟩
theorem wR (a:Option Addr) (len cap:Nat) (w:World) (hb:len≤1048576→Bytes w a len):
  Calls Tryz.prog 6 #[.slice a len cap] w fun e w'=>e= .returned (.bool true)∧Below w.heap.size w w':=by
 by_cases hl:1048576 < len
 ·have hd:decide (1048576 < len)=true:=by simp [hl]
  go_enter Tryz.func6,Tryz.ntmps6
  go_wp2_with (go_at_call 20; refine (DG _ _ _ _).mono ?_; rintro e w' ⟨rfl,rfl⟩; rw [hd])
  go_ret
  exact ⟨rfl,by go_grown⟩
 have hd:decide (1048576 < len)=false:=by simp [hl]
 have HBY:Hid (Bytes w a len):=hb (by omega)
 clear hb
 have hl:len≤1048576:=by omega
 go_enter Tryz.func6,Tryz.ntmps6
 go_wp2_with (go_at_call 20; refine (DG _ _ _ _).mono ?_; rintro e w' ⟨rfl,rfl⟩; rw [hd])
 refine (vH a len cap _ hl HBY.out).mono ?_
 clear hl hd HBY
 rintro e A1 ⟨q,rfl,ho,hs,hb1⟩
 have S:Hid (av ((A1.alloc (.cells ar 32)).setRow A1.heap.size q.cells) (A1.heap.size) q∧ap ((A1.alloc (.cells ar 32)).setRow A1.heap.size q.cells) w'.heap.size q∧q.pure.Small∧Below w'.heap.size w' ((A1.alloc (.cells ar 32)).setRow A1.heap.size q.cells)):=by
  have hz:Below A1.heap.size A1 ((A1.alloc (.cells ar 32)).setRow A1.heap.size q.cells):=below_setRow ((Below.refl _ _).alloc (Nat.le_refl _) _) (Nat.le_refl _) _
  exact ⟨setRow_heap _ _ _ _ _ _ (heap_alloc_new _ _),ho.below hz,hs,hb1.trans (hz.mono hb1.size)⟩
 clear ho hs hb1
 go_upto_region 4 with (refine ec 3 12 _ q.cells (heap_alloc_new _ _) ?_)
 generalize (A1.alloc (.cells ar 32)).setRow A1.heap.size q.cells=B at *
 generalize A1.heap.size=X at *
 have hcall:=um q B (uG S.out.2.2.1 S.out.2.1)
 go_wp2_with (refine eT 3 X q.cells S.out.1 ?_)
 refine hcall.mono ?_
 clear hcall
 rintro e B1 ⟨rfl,hb⟩
 replace S:Hid (av (B1) (X) q∧ap (B1) w'.heap.size q∧q.pure.Small∧Below w'.heap.size w' (B1)):=⟨S.out.1.below hb,S.out.2.1.below hb,S.out.2.2.1,S.out.2.2.2.trans (hb.mono S.out.2.2.2.size)⟩
 clear hb
 have hcall:=ov q B1 (dV S.out.2.2.1) (fun x hx=>(cY S.out.2.2.1 hx).1) S.out.2.1.at
 go_wp2_with (refine eT 3 X q.cells S.out.1 ?_)
 refine hcall.mono ?_
 clear hcall
 rintro e B2 ⟨rfl,hb⟩
 replace S:Hid (av (B2) (X) q∧ap (B2) w'.heap.size q∧q.pure.Small∧Below w'.heap.size w' (B2)):=⟨S.out.1.below hb,S.out.2.1.below hb,S.out.2.2.1,S.out.2.2.2.trans (hb.mono S.out.2.2.2.size)⟩
 clear hb
 have hne:(da q.pure != da q.pure)=false:=by simp
 have hcall:=eV q B2 (dV S.out.2.2.1) (fun x hx=>(cY S.out.2.2.1 hx).1) S.out.2.1.at
 unfold af.cells at hcall
 obtain ⟨m0,m1,m2,m3,m4,m5,m6,m7⟩:=S.out.1.cells
 go_wp2_with fail
 clear m0 m1 m2 m3 m4 m5 m6 m7 hne
 refine hcall.mono ?_
 clear hcall
 rintro e B3 ⟨rfl,hb⟩
 replace S:Hid (av (B3) (X) q∧ap (B3) w'.heap.size q∧q.pure.Small∧Below w'.heap.size w' (B3)):=⟨S.out.1.below hb,S.out.2.1.below hb,S.out.2.2.1,S.out.2.2.2.trans (hb.mono S.out.2.2.2.size)⟩
 clear hb
 cases h4:bK q.pure
 ·have HZ:Hid (da q.pure=0):=Ev h4
  clear h4
  have hcall:=ov q B3 (dV S.out.2.2.1) (fun x hx=>(cY S.out.2.2.1 hx).1) S.out.2.1.at
  go_wp2_with (refine eT 3 X q.cells S.out.1 ?_)
  refine hcall.mono ?_
  clear hcall
  rintro e B4 ⟨rfl,hb⟩
  replace S:Hid (av (B4) (X) q∧ap (B4) w'.heap.size q∧q.pure.Small∧Below w'.heap.size w' (B4)):=⟨S.out.1.below hb,S.out.2.1.below hb,S.out.2.2.1,S.out.2.2.2.trans (hb.mono S.out.2.2.2.size)⟩
  clear hb
  rw [HZ.out]
  go_wp2
  go_ret
  exact ⟨al (by simp),S.out.2.2.2⟩
 have HC:=aA (Fe h4)
 have HWF:=aA (Ek S.out.2.2.1)
 clear h4
 have hcall:=uN q (da q.pure) B3 HWF.out (uG S.out.2.2.1 S.out.2.1)
 generalize da q.pure=z at *
 go_wp2_with (refine eT 3 X q.cells S.out.1 ?_)
 refine hcall.mono ?_
 clear hcall HWF
 rintro e B4 ⟨x,rfl,-,hx,hb⟩
 replace S:Hid (av (B4) (X) q∧ap (B4) w'.heap.size q∧q.pure.Small∧Below w'.heap.size w' (B4)):=⟨S.out.1.below hb,S.out.2.1.below hb,S.out.2.2.1,S.out.2.2.2.trans (hb.mono S.out.2.2.2.size)⟩
 clear hb
 rw [← hx] at HC
 clear hx
 generalize (ew q.pure z).isSome=th at *
 replace S:Hid (av ((B4.alloc (.cells cE 43)).setRow B4.heap.size (aX x)) (X) q∧ap ((B4.alloc (.cells cE 43)).setRow B4.heap.size (aX x)) w'.heap.size q∧q.pure.Small∧Below w'.heap.size w' ((B4.alloc (.cells cE 43)).setRow B4.heap.size (aX x))∧((B4.alloc (.cells cE 43)).setRow B4.heap.size (aX x)).heap[B4.heap.size]? =some (.cells (aX x) 43 (0,0))):=by
  have hz:Below B4.heap.size B4 ((B4.alloc (.cells cE 43)).setRow B4.heap.size (aX x)):=below_setRow ((Below.refl _ _).alloc (Nat.le_refl _) _) (Nat.le_refl _) _
  exact ⟨S.out.1.below hz,S.out.2.1.below hz,S.out.2.2.1,S.out.2.2.2.trans (hz.mono S.out.2.2.2.size),setRow_heap _ _ _ _ _ _ (heap_alloc_new _ _)⟩
 go_upto_region 8 with (refine wpList_store_row rfl 43 (.tmp 5) (.tmp 36) rfl _ _ _ (aX x) rfl rfl (heap_alloc_new _ _) (by kernel_rfl) rfl (by kernel_rfl) ?_)
 generalize (B4.alloc (.cells cE 43)).setRow B4.heap.size (aX x)=C at *
 generalize B4.heap.size=Y at *
 have DM:Hid (q.procs.length≤1048576):=(gv S.out.2.2.1).procs
 go_upto_region 9 with fail
 go_loopw [7] (fun i wr=> ∃ k:Nat,k≤q.procs.length∧i= .int .i64 k∧Hid (av (wr) (X) q∧ap (wr) w'.heap.size q∧q.pure.Small∧Below w'.heap.size w' (wr)∧(wr).heap[Y]? =some (.cells (aX x) 43 (0,0)))) (fun i _=>q.procs.length - (Go.RowKit.intOf i).toNat)
 case atStart=>exact ⟨0,Nat.zero_le _,rfl,S⟩
 case round=>
  clear S
  obtain ⟨k,hk,rfl,S⟩:=hrel
  have hlen:=DM.out
  obtain ⟨-,-,m2,-⟩:=S.out.1.cells
  obtain ⟨-,c1,-,c3,-,-,-,-,-,-,-,pe⟩:=bo S.out.2.2.2.2
  by_cases hlt:k < q.procs.length
  ·have i0:(0:Int)≤(k:Int):=by omega
   have i1:(k:Int) < (q.procs.length:Int):=by omega
   obtain ⟨y,hy⟩: ∃ y,q.procs[k]? =some y:=⟨_,List.getElem?_eq_getElem hlt⟩
   have HY:=aA (HC.out.2.2 y.toaD (List.mem_map.2 ⟨y,List.mem_of_getElem? hy,rfl⟩))
   obtain ⟨gs,ha,hat⟩:=cn S.out.2.1.at.1 hy
   rw [ha] at m2
   obtain ⟨d0,d1,d2,d3,d4,d5,d6,d7,d8,d9,tH,tS⟩:=hat
   clear hy ha
   have HN:Hid (av (wr.alloc (.cells (aX y) 43)) (X) q∧ap (wr.alloc (.cells (aX y) 43)) w'.heap.size q∧q.pure.Small∧Below w'.heap.size w' (wr.alloc (.cells (aX y) 43))∧(wr.alloc (.cells (aX y) 43)).heap[Y]? =some (.cells (aX x) 43 (0,0))∧(wr.alloc (.cells (aX y) 43)).heap[wr.heap.size]? =some (.cells (aX y) 43 (0,0))):=by
    have hz:Below wr.heap.size wr (wr.alloc (.cells (aX y) 43)):=(Below.refl _ _).alloc (Nat.le_refl _) _
    exact ⟨S.out.1.below hz,S.out.2.1.below hz,S.out.2.2.1,S.out.2.2.2.1.trans (hz.mono S.out.2.2.2.1.size),(hz.block _ (Array.getElem?_eq_some_iff.1 S.out.2.2.2.2).1).trans S.out.2.2.2.2,heap_alloc_new _ _⟩
   unfold aX at HN
   go_upto_region 12 with fail
   generalize wr.alloc (.cells y.row 43)=W5 at *
   generalize wr.heap.size=V at *
   clear d0 d1 d2 d3 d4 d5 d6 d7 d8 d9 tH tS m2 c1 c3 pe S
   obtain ⟨-,c1,-,c3,-,-,-,-,-,-,-,pe⟩:=bo HN.out.2.2.2.2.1
   obtain ⟨-,e1,-,e3,-,-,-,-,-,-,-,e11⟩:=bo HN.out.2.2.2.2.2
   by_cases hs:y.state=1
   ·obtain ⟨ht,FT⟩:=HY.out hs
    subst ht
    have ds:(y.state == 1)=true:=by simp [hs]
    by_cases hp:y.prio=x.prio
    ·have dq:(y.prio == x.prio)=true:=by simp [hp]
     have dp:decide (x.prio < y.prio)=false:=decide_eq_false (by omega)
     have dr:decide (y.since < x.since)=false:=by unfold dF at FT; rwa [if_pos (by exact hp)] at FT
     clear hp hs FT
     go_wp2
     go_roundw
     case rel=>exact ⟨k+1,by omega,by go_num,HN.out.1,HN.out.2.1,HN.out.2.2.1,HN.out.2.2.2.1,HN.out.2.2.2.2.1⟩
     case measure=>simp [Go.RowKit.intOf]; omega
    ·have dq:(y.prio == x.prio)=false:=by simp [hp]
     have dp:decide (x.prio < y.prio)=false:=by unfold dF at FT; rwa [if_neg (by exact hp)] at FT
     clear hp hs FT
     go_wp2
     go_roundw
     case rel=>exact ⟨k+1,by omega,by go_num,HN.out.1,HN.out.2.1,HN.out.2.2.1,HN.out.2.2.2.1,HN.out.2.2.2.2.1⟩
     case measure=>simp [Go.RowKit.intOf]; omega
   ·have ds:(y.state == 1)=false:=by simp [hs]
    clear hs
    go_wp2
    go_roundw
    case rel=>exact ⟨k+1,by omega,by go_num,HN.out.1,HN.out.2.1,HN.out.2.2.1,HN.out.2.2.2.1,HN.out.2.2.2.2.1⟩
    case measure=>simp [Go.RowKit.intOf]; omega
  ·have i1: ¬ (k:Int) < (q.procs.length:Int):=by omega
   have h5:=HC.out.1
   have h6:=HC.out.2.1
   cases th
   ·have dz:decide (0 < z)=false:=by simpa using h5
    clear h5 h6
    go_wp2
    go_ret
    exact ⟨al (by simp),S.out.2.2.2.1⟩
   ·have dz:decide (0 < z)=true:=by simpa using h5
    have ds:(x.state == 1)=true:=by have:=h6 rfl; simpa using this
    clear h5 h6
    go_wp2
    go_ret
    exact ⟨al (by simp),S.out.2.2.2.1⟩
end Go.Proofs.YtkbcplnlehdjfaaGreat
