/- What the proof leans on, part 14: OwnI, SoProc, WaitsI. -/
import Derived.Test.YtkbcplnlehdjfaaGreatOwnR6
import Derived.Test.YtkbcplnlehdjfaaGreatOwnR8
import Derived.Test.YtkbcplnlehdjfaaGreatOwnR9
import Derived.Test.YtkbcplnlehdjfaaGreatOwnR11
import Derived.Test.YtkbcplnlehdjfaaGreatOwnR12

namespace Go.Proofs.YtkbcplnlehdjfaaGreat
open Go.RowKit Go.Maps
attribute [local go_sem ↓] Go.wp_at_zero Go.wp_at_succ
def procN : Nest ProcD := ⟨procVs, fun x => x.id, 43, 134, 4, fun x => x.progA, fun x => x.progC, fun x => x.prog.length, fun x => opK.flat x.prog, fun x a c => { x with progA := a, progC := c }, fun _ _ _ => rfl, fun _ _ _ => rfl, fun _ _ _ => rfl, fun _ _ _ => rfl, fun _ _ _ => rfl, fun _ _ _ _ _ => rfl⟩
def bufferN : Nest BufferD := ⟨bufferVs, fun x => x.id, 144, 9, 1, fun x => x.itemsA, fun x => x.itemsC, fun x => x.items.length, fun x => strK.flat x.items, fun x a c => { x with itemsA := a, itemsC := c }, fun _ _ _ => rfl, fun _ _ _ => rfl, fun _ _ _ => rfl, fun _ _ _ => rfl, fun _ _ _ => rfl, fun _ _ _ _ _ => rfl⟩
def portN : Nest PortD := ⟨portVs, fun x => x.id, 61, 9, 1, fun x => x.itemsA, fun x => x.itemsC, fun x => x.items.length, fun x => strK.flat x.items, fun x a c => { x with itemsA := a, itemsC := c }, fun _ _ _ => rfl, fun _ _ _ => rfl, fun _ _ _ => rfl, fun _ _ _ => rfl, fun _ _ _ => rfl, fun _ _ _ _ _ => rfl⟩
/-- The lists of the things lie, below all that was made. -/
def ListsIn {α : Type} (N : Nest α) (w : World) (base : Nat) (l : List (α × Nat)) : Prop := ∀ p ∈ l, Row w (N.ad p.1) (N.flat p.1) ∧ N.len p.1 ≤ 1048576 ∧ ∀ g, N.kid p.1 = some g → g < base
theorem ListsIn.low {α : Type} {N : Nest α} {w w' : World} {base : Nat} {l : List (α × Nat)} (h : ListsIn N w base l) (hb : Below base w w') : ListsIn N w' base l := fun p hp =>
 ⟨(h p hp).1.low (fun q e => (h p hp).2.2 q.block (by simp [Nest.kid, e])) hb, (h p hp).2⟩
theorem opInfoL : (Tryz.prog.info? 134).map (fun i => (i.zero, i.size, i.bytes)) = some (some (.agg #[.int .i64 0, .int .i64 0, .int .i64 0, .string ⟨#[]⟩]), 4, 40) := by kernel_rfl
theorem strInfo : (Tryz.prog.info? 9).map (fun i => (i.zero, i.size, i.bytes)) = some (some (.string ⟨#[]⟩), 1, 16) := by kernel_rfl
theorem one_op {l : List OpD} : ∀ u ∈ opK.flat l, u.oneCell' = true := fun u hu => by
 obtain ⟨x, _, hx⟩ := List.mem_flatMap.1 hu
 simp only [opK, opVals, List.mem_cons, List.not_mem_nil, or_false] at hx
 rcases hx with rfl | rfl | rfl | rfl <;> rfl
theorem one_str {l : List ByteArray} : ∀ u ∈ strK.flat l, u.oneCell' = true := fun u hu => by
 obtain ⟨x, _, hx⟩ := List.mem_flatMap.1 hu
 simp only [strK, List.mem_cons, List.not_mem_nil, or_false] at hx
 subst hx
 rfl
theorem copy_ops (w : World) (a : Option Addr) (l : List OpD) (cap : Nat) (h : Row w a (opK.flat l)) (hl : l.length ≤ 1048576) :
  ∃ a' cap' w', (Builtin.append_ #[37, 37] 37 #[.slice none 0 0, .slice a l.length cap]).run Tryz.prog w = .ok (.slice a' l.length cap') w' ∧ w'.ownsRow w.heap.size 134 4 (.slice a' l.length cap') l.length (opK.flat l) ∧ w.grownBy w' none := by
 obtain ⟨i, hi, e⟩ := Option.map_eq_some_iff.1 opInfoL
 simp only [Prod.mk.injEq] at e
 exact append_copy w _ _ 134 i _ 4 40 Tryz.underlying37 hi e.1 e.2.1 e.2.2 rfl (by decide) a l.length cap _ h (opK.flat_length l) one_op hl (by decide)
theorem copy_strs (w : World) (a : Option Addr) (l : List ByteArray) (cap : Nat) (h : Row w a (strK.flat l)) (hl : l.length ≤ 1048576) :
  ∃ a' cap' w', (Builtin.append_ #[59, 59] 59 #[.slice none 0 0, .slice a l.length cap]).run Tryz.prog w = .ok (.slice a' l.length cap') w' ∧ w'.ownsRow w.heap.size 9 1 (.slice a' l.length cap') l.length (strK.flat l) ∧ w.grownBy w' none := by
 obtain ⟨i, hi, e⟩ := Option.map_eq_some_iff.1 strInfo
 simp only [Prod.mk.injEq] at e
 exact append_copy w _ _ 9 i _ 1 16 Tryz.underlying59 hi e.1 e.2.1 e.2.2 rfl (by decide) a l.length cap _ h (strK.flat_length l) one_str hl (by decide)
/-- What a shelf's lists end in. -/
structure Owned {α : Type} (N : Nest α) (w0 wr : World) (base b : Nat) (l l' : List (α × Nat)) : Prop where
 shelf : Shelf N.vs N.num N.T wr base b l'
 alike : l'.map (fun p => (N.set p.1 none 0, p.2)) = l.map (fun p => (N.set p.1 none 0, p.2))
 mine : ∀ p ∈ l', N.Mine wr w0.heap.size p.1
 nodup : (kids N l').Nodup
 os : wr.os = w0.os
 tape : wr.tape = w0.tape
 output : wr.output = w0.output
 size : w0.heap.size ≤ wr.heap.size
 same : ∀ g, g < w0.heap.size → g ∉ l.map (·.2) → wr.heap[g]? = w0.heap[g]?
theorem OwnIn.owned {α : Type} {N : Nest α} {w0 wr : World} {base b : Nat} {l l' : List (α × Nat)} {left : Lit → Bool} (h : OwnIn N w0 wr base b l l' left) (hd : ∀ kl, left kl = false) : Owned N w0 wr base b l l' :=
 ⟨h.shelf, h.alike, fun p hp => h.own p hp (hd _), h.nodup hd, h.os, h.tape, h.output, h.size, h.same⟩
theorem Owned.below {α : Type} {N : Nest α} {w0 wr : World} {base b : Nat} {l l' : List (α × Nat)} (h : Owned N w0 wr base b l l') (hb : base ≤ w0.heap.size) (hl : ∀ g ∈ l.map (·.2), base ≤ g) : Below base w0 wr :=
 ⟨h.os, h.tape, h.output, h.size, fun g hg => h.same g (by omega) (fun hm => by have := hl g hm; omega)⟩
/-- The three shelves whose things have lists. -/
structure Three (w : World) (base o : Nat) (q : Opn) (lp : List (ProcD × Nat)) (lf : List (BufferD × Nat)) (lq : List (PortD × Nat)) : Prop where
 opn : OpenBox w o q
 procs : Shelf procVs (fun x : ProcD => x.id) 43 w base q.bp lp
 buffers : Shelf bufferVs (fun x : BufferD => x.id) 144 w base q.bf lf
 ports : Shelf portVs (fun x : PortD => x.id) 61 w base q.bq lq
 nodup : (o :: ((q.bp :: lp.map (·.2)) ++ ((q.bf :: lf.map (·.2)) ++ (q.bq :: lq.map (·.2))))).Nodup
theorem Three.ownedProc {w w' : World} {base o : Nat} {q : Opn} {lp l' : List (ProcD × Nat)} {lf : List (BufferD × Nat)} {lq : List (PortD × Nat)} (h : Three w base o q lp lf lq) (ho : Owned procN w w' base q.bp lp l') : Three w' base o q l' lf lq := by
 have hbl : l'.map (·.2) = lp.map (·.2) := by
  have := congrArg (List.map (·.2)) ho.alike
  simp only [List.map_map, Function.comp_def] at this
  exact this
 have hn := h.nodup
 rw [List.nodup_cons, List.nodup_append] at hn
 obtain ⟨h1, h2, h3, h4⟩ := hn
 have hlp : ∀ g, g ∈ (q.bf :: lf.map (·.2)) ++ (q.bq :: lq.map (·.2)) → g ∉ lp.map (·.2) := fun g hg hm => h4 g (List.mem_cons_of_mem _ hm) g hg rfl
 refine ⟨(ho.same o (Array.getElem?_eq_some_iff.1 h.opn).1 (fun hm => h1 (by simp [List.mem_map.1 hm]))).trans h.opn, ho.shelf, h.buffers.same fun g hg => ho.same g (h.buffers.lt g hg) (hlp g (List.mem_append_left _ hg)), h.ports.same fun g hg => ho.same g (h.ports.lt g hg) (hlp g (List.mem_append_right _ hg)), ?_⟩
 rw [hbl]
 exact h.nodup
theorem Three.ownedBuffer {w w' : World} {base o : Nat} {q : Opn} {lp : List (ProcD × Nat)} {lf l' : List (BufferD × Nat)} {lq : List (PortD × Nat)} (h : Three w base o q lp lf lq) (ho : Owned bufferN w w' base q.bf lf l') : Three w' base o q lp l' lq := by
 have hbl : l'.map (·.2) = lf.map (·.2) := by
  have := congrArg (List.map (·.2)) ho.alike
  simp only [List.map_map, Function.comp_def] at this
  exact this
 have hn := h.nodup
 rw [List.nodup_cons, List.nodup_append, List.nodup_append] at hn
 obtain ⟨h1, h2, ⟨h3, h5, h6⟩, h4⟩ := hn
 refine ⟨(ho.same o (Array.getElem?_eq_some_iff.1 h.opn).1 (fun hm => h1 (by simp [List.mem_map.1 hm]))).trans h.opn, h.procs.same fun g hg => ho.same g (h.procs.lt g hg) (fun hm => h4 g hg g (List.mem_append_left _ (List.mem_cons_of_mem _ hm)) rfl), ho.shelf, h.ports.same fun g hg => ho.same g (h.ports.lt g hg) (fun hm => h6 g (List.mem_cons_of_mem _ hm) g hg rfl), ?_⟩
 rw [hbl]
 exact h.nodup
set_option maxRecDepth 100000 in
set_option maxHeartbeats 8000000 in
theorem ownLists_walk (o base : Nat) (q : Opn) (lp : List (ProcD × Nat)) (lf : List (BufferD × Nat)) (lq : List (PortD × Nat)) (w : World) (h : Three w base o q lp lf lq) (hb : base ≤ w.heap.size) (h1 : ListsIn procN w base lp) (h2 : ListsIn bufferN w base lf) (h3 : ListsIn portN w base lq) :
  Calls Tryz.prog 155 #[.pointer (some ⟨o, 0, none⟩)] w fun e w' => e = .returned (.tuple #[]) ∧ ∃ w1 w2 l0 l1 l2, Owned procN w w1 base q.bp lp l0 ∧ Owned bufferN w1 w2 base q.bf lf l1 ∧ Owned portN w2 w' base q.bq lq l2 := by
 have HT : Hid (Three w base o q lp lf lq) := h
 have HB0 : Hid (base ≤ w.heap.size) := hb
 have HBL : Hid (∀ g ∈ lp.map (·.2), base ≤ g) := fun g hg => h.procs.low g (List.mem_cons_of_mem _ hg)
 have HLP : Hid (ListsIn procN w base lp) := h1
 have HLF : Hid (ListsIn bufferN w base lf) := h2
 have HLQ : Hid (ListsIn portN w base lq) := h3
 clear h hb h1 h2 h3
 go_enter Tryz.func155, Tryz.ntmps155
 have c0 : w.cell? ⟨o, 3, none⟩ = some (.map (some q.bp)) := HT.out.opn.cell 3
 have hown := HT.out.procs.map.1
 go_wp2_with (at_range; refine wpList_range_own _ rfl _ 108 rfl 2 102 keyed64 Tryz.underlying108 ptrR q.bp _ _ rfl hown ?_; intro w1 hrg1 hg1 hs1)
 have HS : Hid (OwnIn procN w w1 base q.bp lp lp (Maps.has (mapD (keysOf procN.num lp)))) := OwnIn.start HT.out.procs hg1
 have HL0 : Hid (∀ g ∈ q.bp :: lp.map (·.2), g < w.heap.size) := HT.out.procs.lt
 clear hown c0 hg1
 go_frame
 go_loopw [3] (fun _ wr1 => ∃ (left : Lit → Bool) (cnt : Nat) (l' : List (ProcD × Nat)), wr1.ranges Tryz.prog 2 ptrR q.bp w.heap.size (keysOf (fun x : ProcD => x.id) lp).length (mapD (keysOf (fun x : ProcD => x.id) lp)) left cnt ∧ Hid (OwnIn procN w wr1 base q.bp lp l' left)) (fun _ wr1 => wr1.rangeLeft q.bp w.heap.size)
 case atStart => exact ⟨_, _, lp, hrg1, HS.out⟩
 case round =>
  rename World => wr1
  clear HS hrg1 hs1 w1
  obtain ⟨left, cnt, l0, hrg, HO⟩ := hrel
  go_wp2_with (at_next; refine wpList_next_ranges _ rfl _ rfl 2 keyed64 ptrR (Value.int .i64) ptrV (fun key kl hk => by obtain ⟨x, rfl, _⟩ := keyOf_int_inv Tryz.underlying2 hk; exact ⟨x, rfl⟩) (fun v y hv => by obtain ⟨g, rfl, _⟩ := ptrR_inv hv; exact ⟨g, rfl⟩) q.bp w.heap.size _ _ _ _ rfl hrg ?_ ?_)
  ·intro hc0 hl0
   have HD0 : Hid (Owned procN w wr1 base q.bp lp l0) := HO.out.owned hl0
   clear hrg HO hc0 hl0 HL0 left cnt
   have HTN : Hid (Three wr1 base o q l0 lf lq) := HT.out.ownedProc HD0.out
   clear HT
   have HT : Hid (Three wr1 base o q l0 lf lq) := HTN.out
   have HLI : Hid (ListsIn bufferN wr1 base lf ∧ ListsIn portN wr1 base lq) := ⟨HLF.out.low (HD0.out.below HB0.out HBL.out), HLQ.out.low (HD0.out.below HB0.out HBL.out)⟩
   have HBN : Hid (base ≤ wr1.heap.size) := Nat.le_trans HB0.out HD0.out.size
   clear HTN HB0 HBL HLP
   have HB0 : Hid (base ≤ wr1.heap.size) := HBN.out
   have HBL : Hid (∀ g ∈ lf.map (·.2), base ≤ g) := fun g hg => HT.out.buffers.low g (List.mem_cons_of_mem _ hg)
   clear HLF HLQ
   have HLF : Hid (ListsIn bufferN wr1 base lf) := HLI.out.1
   have HLQ : Hid (ListsIn portN wr1 base lq) := HLI.out.2
   clear HLI HBN
   have c1 : wr1.cell? ⟨o, 11, none⟩ = some (.map (some q.bf)) := HT.out.opn.cell 11
   have hown := HT.out.buffers.map.1
   go_wp2_with (at_range; refine wpList_range_own _ rfl _ 120 rfl 2 224 keyed64 Tryz.underlying120 ptrR q.bf _ _ rfl hown ?_; intro w1 hrg1 hg1 hs1)
   have HS : Hid (OwnIn bufferN wr1 w1 base q.bf lf lf (Maps.has (mapD (keysOf bufferN.num lf)))) := OwnIn.start HT.out.buffers hg1
   have HL1 : Hid (∀ g ∈ q.bf :: lf.map (·.2), g < wr1.heap.size) := HT.out.buffers.lt
   clear hown c1 hg1
   go_frame
   go_loopw [5] (fun _ wr2 => ∃ (left : Lit → Bool) (cnt : Nat) (l' : List (BufferD × Nat)), wr2.ranges Tryz.prog 2 ptrR q.bf wr1.heap.size (keysOf (fun x : BufferD => x.id) lf).length (mapD (keysOf (fun x : BufferD => x.id) lf)) left cnt ∧ Hid (OwnIn bufferN wr1 wr2 base q.bf lf l' left)) (fun _ wr2 => wr2.rangeLeft q.bf wr1.heap.size)
   case atStart => exact ⟨_, _, lf, hrg1, HS.out⟩
   case round =>
    rename World => wr2
    clear HS hrg1 hs1 w1
    obtain ⟨left, cnt, l1, hrg, HO⟩ := hrel
    go_wp2_with (at_next; refine wpList_next_ranges _ rfl _ rfl 2 keyed64 ptrR (Value.int .i64) ptrV (fun key kl hk => by obtain ⟨x, rfl, _⟩ := keyOf_int_inv Tryz.underlying2 hk; exact ⟨x, rfl⟩) (fun v y hv => by obtain ⟨g, rfl, _⟩ := ptrR_inv hv; exact ⟨g, rfl⟩) q.bf wr1.heap.size _ _ _ _ rfl hrg ?_ ?_)
    ·intro hc0 hl0
     have HD1 : Hid (Owned bufferN wr1 wr2 base q.bf lf l1) := HO.out.owned hl0
     clear hrg HO hc0 hl0 HL1 left cnt
     have HTN : Hid (Three wr2 base o q l0 l1 lq) := HT.out.ownedBuffer HD1.out
     clear HT
     have HT : Hid (Three wr2 base o q l0 l1 lq) := HTN.out
     have HLI : Hid (ListsIn portN wr2 base lq) := HLQ.out.low (HD1.out.below HB0.out HBL.out)
     have HBN : Hid (base ≤ wr2.heap.size) := Nat.le_trans HB0.out HD1.out.size
     clear HTN HB0 HBL HLF
     have HB0 : Hid (base ≤ wr2.heap.size) := HBN.out
     have HBL : Hid (∀ g ∈ lq.map (·.2), base ≤ g) := fun g hg => HT.out.ports.low g (List.mem_cons_of_mem _ hg)
     clear HLQ
     have HLQ : Hid (ListsIn portN wr2 base lq) := HLI.out
     clear HLI HBN
     have c2 : wr2.cell? ⟨o, 13, none⟩ = some (.map (some q.bq)) := HT.out.opn.cell 13
     have hown := HT.out.ports.map.1
     go_wp2_with (at_range; refine wpList_range_own _ rfl _ 123 rfl 2 225 keyed64 Tryz.underlying123 ptrR q.bq _ _ rfl hown ?_; intro w1 hrg1 hg1 hs1)
     have HS : Hid (OwnIn portN wr2 w1 base q.bq lq lq (Maps.has (mapD (keysOf portN.num lq)))) := OwnIn.start HT.out.ports hg1
     have HL2 : Hid (∀ g ∈ q.bq :: lq.map (·.2), g < wr2.heap.size) := HT.out.ports.lt
     clear hown c2 hg1
     go_frame
     go_loopw [7] (fun _ wr3 => ∃ (left : Lit → Bool) (cnt : Nat) (l' : List (PortD × Nat)), wr3.ranges Tryz.prog 2 ptrR q.bq wr2.heap.size (keysOf (fun x : PortD => x.id) lq).length (mapD (keysOf (fun x : PortD => x.id) lq)) left cnt ∧ Hid (OwnIn portN wr2 wr3 base q.bq lq l' left)) (fun _ wr3 => wr3.rangeLeft q.bq wr2.heap.size)
     case atStart => exact ⟨_, _, lq, hrg1, HS.out⟩
     case round =>
      rename World => wr3
      clear HS hrg1 hs1 w1
      obtain ⟨left, cnt, l2, hrg, HO⟩ := hrel
      go_wp2_with (at_next; refine wpList_next_ranges _ rfl _ rfl 2 keyed64 ptrR (Value.int .i64) ptrV (fun key kl hk => by obtain ⟨x, rfl, _⟩ := keyOf_int_inv Tryz.underlying2 hk; exact ⟨x, rfl⟩) (fun v y hv => by obtain ⟨g, rfl, _⟩ := ptrR_inv hv; exact ⟨g, rfl⟩) q.bq wr2.heap.size _ _ _ _ rfl hrg ?_ ?_)
      ·intro hc0 hl0
       have HD2 : Hid (Owned portN wr2 wr3 base q.bq lq l2) := HO.out.owned hl0
       clear hrg HO hc0 hl0 HL2 left cnt
       go_wp2
       go_end0
       exact ⟨rfl, wr1, wr2, l0, l1, l2, HD0.out, HD1.out, HD2.out⟩
      ·intro x c kl y1 y2 w2 cnt2 hkey hlk hv hat hrg2 hlt2 hgr2 hsz2 hen
       obtain ⟨p, hp, rfl, rfl, rfl⟩ := HO.out.pick hkey hv hat
       have hpl : p.2 ∈ lq.map (·.2) := by rw [← HO.out.blocks]; exact List.mem_map.2 ⟨p, hp, rfl⟩
       have hpo := HO.out.old p hp hlk
       have hpw := HL2.out p.2 (List.mem_cons_of_mem _ hpl)
       have hbox : w2.heap[p.2]? = some (.cells (portVs p.1) 61 (0, 0)) := (hgr2.block p.2 (Nat.lt_of_lt_of_le hpw HO.out.size) (fun e => by have := Option.some.inj e; omega)).trans (HO.out.shelf.box p hp)
       have hrow : Row w2 p.1.itemsA (strK.flat p.1.items) := (HLQ.out p hpo).1.same fun g e => by
        have hgb : g < base := (HLQ.out p hpo).2.2 g (by show (p.1.itemsA).map (·.block) = some g; rw [show p.1.itemsA = some ⟨g, 0, none⟩ from e]; rfl)
        have hb0 := HB0.out
        refine (hgr2.block g (by have := HO.out.size; omega) (fun e => by have := Option.some.inj e; omega)).trans (HO.out.same g (by omega) (fun hm => by have := HBL.out g hm; omega))
       obtain ⟨a3, cap3, w3, hap, hown3, hg3⟩ := copy_strs w2 p.1.itemsA p.1.items p.1.itemsC hrow (HLQ.out p hpo).2.1
       have cc : w2.cell? ⟨p.2, 4, none⟩ = some (.slice p.1.itemsA p.1.items.length p.1.itemsC) := by simp [World.cell?, hbox, portVs]
       have hbox3 := (hg3.block p.2 (Array.getElem?_eq_some_iff.1 hbox).1 (by simp)).trans hbox
       have cc3 : w3.cell? ⟨p.2, 4, none⟩ = some (.slice p.1.itemsA p.1.items.length p.1.itemsC) := by simp [World.cell?, hbox3, portVs]
       have cf3 : w3.frozen? ⟨p.2, 4, none⟩ = false := by simp [World.frozen?, hbox3]
       have HN := HO.out.turn (i := 4) hrg hgr2 hrg2 HL2.out (Nat.le_refl _) hp hown3 hg3 rfl
       have HNH : Hid (_ ∧ _) := HN
       have HLT : Hid (cnt2 < cnt ∧ wr3.rangeLeft q.bq wr2.heap.size = cnt) := ⟨hlt2, hrg.left_eq⟩
       simp only [ptrV] at hen
       clear HN hrg hrg2 hgr2 hsz2 hkey hlk hv hat hlt2 hpl hpo hpw hbox hbox3 hrow hown3 hg3
       unfold ptrV
       go_wp2_with (at_builtin; refine wpList_append_run _ rfl _ _ 59 rfl _ _ _ _ rfl rfl hap ?_; clear hap)
       go_roundw
       case rel => exact ⟨_, _, _, HNH.out.2, HNH.out.1⟩
       case measure => have h5 := HNH.out.2.left_eq; have h6 := HLT.out; rw [h6.2]; exact Nat.lt_of_le_of_lt (Nat.le_of_eq h5) h6.1
    ·intro x c kl y1 y2 w2 cnt2 hkey hlk hv hat hrg2 hlt2 hgr2 hsz2 hen
     obtain ⟨p, hp, rfl, rfl, rfl⟩ := HO.out.pick hkey hv hat
     have hpl : p.2 ∈ lf.map (·.2) := by rw [← HO.out.blocks]; exact List.mem_map.2 ⟨p, hp, rfl⟩
     have hpo := HO.out.old p hp hlk
     have hpw := HL1.out p.2 (List.mem_cons_of_mem _ hpl)
     have hbox : w2.heap[p.2]? = some (.cells (bufferVs p.1) 144 (0, 0)) := (hgr2.block p.2 (Nat.lt_of_lt_of_le hpw HO.out.size) (fun e => by have := Option.some.inj e; omega)).trans (HO.out.shelf.box p hp)
     have hrow : Row w2 p.1.itemsA (strK.flat p.1.items) := (HLF.out p hpo).1.same fun g e => by
      have hgb : g < base := (HLF.out p hpo).2.2 g (by show (p.1.itemsA).map (·.block) = some g; rw [show p.1.itemsA = some ⟨g, 0, none⟩ from e]; rfl)
      have hb0 := HB0.out
      refine (hgr2.block g (by have := HO.out.size; omega) (fun e => by have := Option.some.inj e; omega)).trans (HO.out.same g (by omega) (fun hm => by have := HBL.out g hm; omega))
     obtain ⟨a3, cap3, w3, hap, hown3, hg3⟩ := copy_strs w2 p.1.itemsA p.1.items p.1.itemsC hrow (HLF.out p hpo).2.1
     have cc : w2.cell? ⟨p.2, 2, none⟩ = some (.slice p.1.itemsA p.1.items.length p.1.itemsC) := by simp [World.cell?, hbox, bufferVs]
     have hbox3 := (hg3.block p.2 (Array.getElem?_eq_some_iff.1 hbox).1 (by simp)).trans hbox
     have cc3 : w3.cell? ⟨p.2, 2, none⟩ = some (.slice p.1.itemsA p.1.items.length p.1.itemsC) := by simp [World.cell?, hbox3, bufferVs]
     have cf3 : w3.frozen? ⟨p.2, 2, none⟩ = false := by simp [World.frozen?, hbox3]
     have HN := HO.out.turn (i := 2) hrg hgr2 hrg2 HL1.out (Nat.le_refl _) hp hown3 hg3 rfl
     have HNH : Hid (_ ∧ _) := HN
     have HLT : Hid (cnt2 < cnt ∧ wr2.rangeLeft q.bf wr1.heap.size = cnt) := ⟨hlt2, hrg.left_eq⟩
     simp only [ptrV] at hen
     clear HN hrg hrg2 hgr2 hsz2 hkey hlk hv hat hlt2 hpl hpo hpw hbox hbox3 hrow hown3 hg3
     unfold ptrV
     go_wp2_with (at_builtin; refine wpList_append_run _ rfl _ _ 59 rfl _ _ _ _ rfl rfl hap ?_; clear hap)
     go_roundw
     case rel => exact ⟨_, _, _, HNH.out.2, HNH.out.1⟩
     case measure => have h5 := HNH.out.2.left_eq; have h6 := HLT.out; rw [h6.2]; exact Nat.lt_of_le_of_lt (Nat.le_of_eq h5) h6.1
  ·intro x c kl y1 y2 w2 cnt2 hkey hlk hv hat hrg2 hlt2 hgr2 hsz2 hen
   obtain ⟨p, hp, rfl, rfl, rfl⟩ := HO.out.pick hkey hv hat
   have hpl : p.2 ∈ lp.map (·.2) := by rw [← HO.out.blocks]; exact List.mem_map.2 ⟨p, hp, rfl⟩
   have hpo := HO.out.old p hp hlk
   have hpw := HL0.out p.2 (List.mem_cons_of_mem _ hpl)
   have hbox : w2.heap[p.2]? = some (.cells (procVs p.1) 43 (0, 0)) := (hgr2.block p.2 (Nat.lt_of_lt_of_le hpw HO.out.size) (fun e => by have := Option.some.inj e; omega)).trans (HO.out.shelf.box p hp)
   have hrow : Row w2 p.1.progA (opK.flat p.1.prog) := (HLP.out p hpo).1.same fun g e => by
    have hgb : g < base := (HLP.out p hpo).2.2 g (by show (p.1.progA).map (·.block) = some g; rw [show p.1.progA = some ⟨g, 0, none⟩ from e]; rfl)
    have hb0 := HB0.out
    refine (hgr2.block g (by have := HO.out.size; omega) (fun e => by have := Option.some.inj e; omega)).trans (HO.out.same g (by omega) (fun hm => by have := HBL.out g hm; omega))
   obtain ⟨a3, cap3, w3, hap, hown3, hg3⟩ := copy_ops w2 p.1.progA p.1.prog p.1.progC hrow (HLP.out p hpo).2.1
   have cc : w2.cell? ⟨p.2, 2, none⟩ = some (.slice p.1.progA p.1.prog.length p.1.progC) := by simp [World.cell?, hbox, procVs]
   have hbox3 := (hg3.block p.2 (Array.getElem?_eq_some_iff.1 hbox).1 (by simp)).trans hbox
   have cc3 : w3.cell? ⟨p.2, 2, none⟩ = some (.slice p.1.progA p.1.prog.length p.1.progC) := by simp [World.cell?, hbox3, procVs]
   have cf3 : w3.frozen? ⟨p.2, 2, none⟩ = false := by simp [World.frozen?, hbox3]
   have HN := HO.out.turn (i := 2) hrg hgr2 hrg2 HL0.out (Nat.le_refl _) hp hown3 hg3 rfl
   have HNH : Hid (_ ∧ _) := HN
   have HLT : Hid (cnt2 < cnt ∧ wr1.rangeLeft q.bp w.heap.size = cnt) := ⟨hlt2, hrg.left_eq⟩
   simp only [ptrV] at hen
   clear HN hrg hrg2 hgr2 hsz2 hkey hlk hv hat hlt2 hpl hpo hpw hbox hbox3 hrow hown3 hg3
   unfold ptrV
   go_wp2_with (at_builtin; refine wpList_append_run _ rfl _ _ 37 rfl _ _ _ _ rfl rfl hap ?_; clear hap)
   go_roundw
   case rel => exact ⟨_, _, _, HNH.out.2, HNH.out.1⟩
   case measure => have h5 := HNH.out.2.left_eq; have h6 := HLT.out; rw [h6.2]; exact Nat.lt_of_le_of_lt (Nat.le_of_eq h5) h6.1
end Go.Proofs.YtkbcplnlehdjfaaGreat

/- A shelf of a list of things of the kind Proc. (Made by mkshelfof.py.) -/
namespace Go.Proofs.YtkbcplnlehdjfaaGreat
open Go.RowKit
attribute [local go_sem ↓] Go.wp_at_zero Go.wp_at_succ
/-- What holds at the head of each round. -/
def ShProcAt (w : World) (most : Int) (list : List ProcD) (k : Nat) (wr : World) : Prop :=
 ∃ l : List (ProcD × Nat), l.map (·.1) = list.take k ∧ ShIn procVs (fun x : ProcD => x.id) 43 110 w wr most l ∧ thingsB (fun x : ProcD => x.id) (fun x : ProcD => procB x.toProcP) 0 (list.take k) = true ∧ (k : Int) ≤ max most 0
set_option maxRecDepth 100000 in
set_option maxHeartbeats 4000000 in
theorem shelfOfProc_any (a : Option Addr) (list : List ProcD) (cap : Nat) (most : Int) (w : World) (hl : list.length ≤ 1048576) (h : procK.Lies w a list) (hf : ∀ x ∈ list, ProcFit w x) (hw : ∀ x ∈ list, (Lit.int .i64 x.id).wf = true) :
  Calls Tryz.prog 147 #[.slice a list.length cap, .int .i64 most] w fun e w' => ShelfEnds procVs (fun x : ProcD => x.id) 43 w most (thingsB (fun x : ProcD => x.id) (fun x : ProcD => procB x.toProcP) 0 list && decide ((list.length : Int) ≤ max most 0)) list e w' := by
 have hmk := run_makeMap (P := Tryz.prog) 108
 have hmn := meth_numberProc
 have H0 : Hid (ShIn procVs (fun x : ProcD => x.id) 43 110 w (((w.alloc (.cells #[.int .i64 0, .map none] 110)).alloc (.map #[] 0)).alloc (.cells #[.int .i64 most, .map (some (w.heap.size + 1))] 110)) most []) := ShIn.start 110 w most
 have HL : Hid (procK.Lies w a list ∧ (∀ x ∈ list, ProcFit w x) ∧ ∀ x ∈ list, (Lit.int .i64 x.id).wf = true) := ⟨h, hf, hw⟩
 clear h hf hw
 go_enter Tryz.func147, Tryz.ntmps147
 go_wp2_with fail
 go_loopw [7, 15] (fun last i wr => ∃ k : Nat, k ≤ list.length ∧ i = .int .i64 k ∧ last = .int .i64 (lastOf (fun x : ProcD => x.id) 0 (list.take k)) ∧ Hid (ShProcAt w most list k wr)) (fun _ i _ => list.length - (intOf i).toNat)
 case atStart => exact ⟨0, Nat.zero_le _, rfl, rfl, ⟨[], by simp, H0.out, rfl, by simp; omega⟩⟩
 case round =>
  clear H0 hmk
  obtain ⟨k, hk, rfl, rfl, HA⟩ := hrel
  obtain ⟨l, hlm, hin, hth, hkm⟩ := HA.out
  have HT : Hid (l.map (·.1) = list.take k ∧ thingsB (fun x : ProcD => x.id) (fun x : ProcD => procB x.toProcP) 0 (list.take k) = true ∧ (k : Int) ≤ max most 0) := ⟨hlm, hth, hkm⟩
  have HI : Hid (ShIn procVs (fun x : ProcD => x.id) 43 110 w wr most l) := hin
  clear HA hlm hin hth hkm
  by_cases hlt : k < list.length
  ·have i0 : (0 : Int) ≤ (k : Int) := by omega
   have i1 : (k : Int) < (list.length : Int) := by omega
   obtain ⟨x, hx⟩ : ∃ x, list[k]? = some x := ⟨_, List.getElem?_eq_getElem hlt⟩
   have hmem := List.mem_of_getElem? hx
   have HX : Hid (list[k]? = some x) := hx
   have HF : Hid (ProcFit w x ∧ (Lit.int .i64 x.id).wf = true) := ⟨HL.out.2.1 x hmem, HL.out.2.2 x hmem⟩
   obtain ⟨gs, ha, hat⟩ := proc_at (HL.out.1.below HI.out.bel) hx
   obtain ⟨c0, c1, c2, c3, c4, c5, c6, c7, c8, c9, c10, c11⟩ := hat
   subst ha
   clear hx hmem
   go_wp2_with fail
   refine (numberProc_any x _).mono ?_
   rintro e w2 ⟨rfl, hb2⟩
   have HI2 : Hid (ShIn procVs (fun x : ProcD => x.id) 43 110 w w2 most l) := (HI.out.below ((Below.refl _ wr).alloc (Nat.le_refl _) (.cells #[.int .i64 x.id, .int .i64 x.prio, .slice x.progA x.prog.length x.progC, .int .i64 x.state, .int .i64 x.pc, .int .i64 x.left, .int .i64 x.wake, .int .i64 x.on, .string x.held, .string x.got, .int .i64 x.code, .int .i64 x.since] 43))).below hb2
   have HB : Hid (w2.heap[wr.heap.size]? = some (.cells (procVs x) 43 (0, 0))) := (hb2.block _ (by simp)).trans (heap_alloc_new _ _)
   have HZ : Hid (w.heap.size + 1 < wr.heap.size) := by show w.heap.size + 1 < wr.heap.size; have := (Array.getElem?_eq_some_iff.1 HI.out.var).1; omega
   clear hb2 HI c0 c1 c2 c3 c4 c5 c6 c7 c8 c9 c10 c11
   obtain ⟨d0, d1, d2, d3, d4, d5, d6, d7, d8, d9, d10, d11⟩ := proc_cells HB.out
   obtain ⟨r0, r1, v0, v1, z0, z1⟩ := HI2.out.cells
   by_cases hle : x.id ≤ lastOf (fun x : ProcD => x.id) 0 (list.take k)
   ·have HN : Hid ((thingsB (fun x : ProcD => x.id) (fun x : ProcD => procB x.toProcP) 0 list && decide ((list.length : Int) ≤ max most 0)) = false) := by
     show _ = false
     rw [things_no HX.out (fun hh => absurd hh.2.1 (by show ¬ lastOf (fun x : ProcD => x.id) 0 (list.take k) < x.id; omega))]; rfl
    go_wp2
    refine bodyPost_ret (v := .tuple #[.agg #[.int .i64 0, .map none], .bool false]) (by simp [results, Tryz.results147, go_sem, *]) rfl ?_
    exact ⟨(HI2.out.away _ _).2, .inl ⟨HN.out, rfl⟩⟩
   have HLT : Hid (lastOf (fun x : ProcD => x.id) 0 (list.take k) < x.id) := by show _ < _; omega
   have hkl : (keysOf (fun x : ProcD => x.id) l).length ≤ 1048576 := by
    rw [keysOf_length]
    have := congrArg List.length HT.out.1
    simp only [List.length_map, List.length_take] at this
    omega
   go_wp2_with fail
   refine (layProc_any most (w.heap.size + 1) (keysOf (fun x : ProcD => x.id) l) x w2 HI2.out.shelf.map HF.out.2 hkl (HF.out.1.below HI2.out.bel)).mono ?_
   rintro e w3 ⟨rfl, hno, hyes⟩
   cases hlay : layB most (keysOf (fun x : ProcD => x.id) l) x.id (procB x.toProcP) with
   | false =>
    have HN : Hid ((thingsB (fun x : ProcD => x.id) (fun x : ProcD => procB x.toProcP) 0 list && decide ((list.length : Int) ≤ max most 0)) = false) := things_lay_no HX.out HT.out.1 HT.out.2.1 HLT.out hlay
    have HI3 : Hid (ShIn procVs (fun x : ProcD => x.id) 43 110 w w3 most l) := HI2.out.below (hno hlay)
    clear hno hyes hlay HI2 r0 r1 v0 v1 z0 z1 d0 d1 d2 d3 d4 d5 d6 d7 d8 d9 d10 d11 HB
    obtain ⟨r0, r1, v0, v1, z0, z1⟩ := HI3.out.cells
    go_wp2
    refine bodyPost_ret (v := .tuple #[.agg #[.int .i64 0, .map none], .bool false]) (by simp [results, Tryz.results147, go_sem, *]) rfl ?_
    exact ⟨(HI3.out.away _ _).2, .inl ⟨HN.out, rfl⟩⟩
   | true =>
    have HY : Hid (thingsB (fun x : ProcD => x.id) (fun x : ProcD => procB x.toProcP) 0 (list.take (k + 1)) = true ∧ ((k + 1 : Nat) : Int) ≤ max most 0) := things_lay_yes HX.out HT.out.1 HT.out.2.1 HLT.out hlay
    obtain ⟨g, hin4⟩ := HI2.out.lay (x := x) (e := .returned (.bool true)) (w' := w3) ⟨rfl, (fun h => by cases h), fun _ => hyes hlay⟩ (rises_last HT.out.1 HT.out.2.1 HLT.out)
    have HI4 : Hid (ShIn procVs (fun x : ProcD => x.id) 43 110 w w3 most (l ++ [(x, g)])) := hin4
    have HB3 : Hid (w3.heap[wr.heap.size]? = some (.cells (procVs x) 43 (0, 0))) := by
     obtain ⟨g', _, _, _, hgr⟩ := hyes hlay
     exact (hgr.block _ (Array.getElem?_eq_some_iff.1 HB.out).1 (fun e => by have := Option.some.inj e; have := HZ.out; omega)).trans HB.out
    clear hno hyes hlay HI2 r0 r1 v0 v1 z0 z1 d0 d1 d2 d3 d4 d5 d6 d7 d8 d9 d10 d11 HB hin4
    obtain ⟨d0, d1, d2, d3, d4, d5, d6, d7, d8, d9, d10, d11⟩ := proc_cells HB3.out
    go_wp2_with fail
    refine (numberProc_any x _).mono ?_
    rintro e w5 ⟨rfl, hb5⟩
    have HI5 : Hid (ShIn procVs (fun x : ProcD => x.id) 43 110 w w5 most (l ++ [(x, g)])) := HI4.out.below hb5
    have HE : Hid (lastOf (fun x : ProcD => x.id) 0 (list.take (k + 1)) = x.id) := lastOf_take HX.out 0
    clear hb5 HI4
    go_wp2
    go_roundw
    case rel => exact ⟨k + 1, by omega, by go_num, by rw [HE.out], ⟨l ++ [(x, g)], by rw [List.map_append, HT.out.1, take_up HX.out]; rfl, HI5.out, HY.out.1, HY.out.2⟩⟩
    case measure => simp [intOf]; omega
  ·have i1 : ¬ (k : Int) < (list.length : Int) := by omega
   have HK : Hid (list.take k = list ∧ ((list.length : Int) ≤ max most 0)) := ⟨List.take_of_length_le (by omega), by have := HT.out.2.2; omega⟩
   have HY : Hid ((thingsB (fun x : ProcD => x.id) (fun x : ProcD => procB x.toProcP) 0 list && decide ((list.length : Int) ≤ max most 0)) = true) := by
    show _ = true
    have h1 := HT.out.2.1
    rw [HK.out.1] at h1
    rw [h1, decide_eq_true HK.out.2]; rfl
   obtain ⟨r0, r1, v0, v1, z0, z1⟩ := HI.out.cells
   go_wp2
   refine bodyPost_ret (v := .tuple #[.agg #[.int .i64 most, .map (some (w.heap.size + 1))], .bool true]) (by simp [results, Tryz.results147, go_sem, *]) rfl ?_
   exact ⟨(HI.out.away _ _).2, .inr ⟨HY.out, w.heap.size + 1, l, rfl, by rw [HT.out.1, HK.out.1], (HI.out.away _ _).1⟩⟩
end Go.Proofs.YtkbcplnlehdjfaaGreat

/- Whether each process's want is there: what the programme answers of an open partition. -/
namespace Go.Proofs.YtkbcplnlehdjfaaGreat
open Go.RowKit Go.Maps
/-- An open partition as far as its processes are asked: its block, its processes, the keys of the rest. -/
structure OpenIn (w W : World) (o : Nat) (q : Opn) (lp : List (ProcD × Nat)) (ms me mb mf : MapL) : Prop where
 opn : OpenBox W o q
 shelf : Shelf procVs (fun x : ProcD => x.id) 43 W 0 q.bp lp
 ms : MapIs W q.bs ms
 me : MapIs W q.be me
 mb : MapIs W q.bb mb
 mf : MapIs W q.bf mf
 bel : Below w.heap.size w W
theorem OpenIn.below {w W W' : World} {o : Nat} {q : Opn} {lp : List (ProcD × Nat)} {ms me mb mf : MapL} (h : OpenIn w W o q lp ms me mb mf) (hb : Below W.heap.size W W') : OpenIn w W' o q lp ms me mb mf :=
 ⟨h.opn.below hb, h.shelf.below hb, h.ms.below hb, h.me.below hb, h.mb.below hb, h.mf.below hb, h.bel.trans (hb.mono h.bel.size)⟩
theorem OpenIn.has {w W : World} {o : Nat} {q : Opn} {lp : List (ProcD × Nat)} {ms me mb mf : MapL} (h : OpenIn w W o q lp ms me mb mf) {p : ProcD × Nat} (hp : p ∈ lp) : HasIn W W o p.2 q p.1 ms me mb mf :=
 ⟨h.opn, h.shelf.box p hp, h.ms, h.me, h.mb, h.mf, Below.refl _ _⟩
/-- Numbers that a machine's word holds. -/
structure ProcD.Wf (x : ProcD) : Prop where
 id : (Lit.int .i64 x.id).wf = true
 on : (Lit.int .i64 x.on).wf = true
 since : (Lit.int .i64 x.since).wf = true
theorem keys_wf {lp : List (ProcD × Nat)} (h : ∀ p ∈ lp, p.1.Wf) : ∀ p ∈ keysOf (fun x : ProcD => x.id) lp, (Lit.int .i64 p.1).wf = true := fun p hp => by
 obtain ⟨r, hr, rfl⟩ := List.mem_map.1 hp
 exact (h r hr).id
set_option maxRecDepth 100000 in
set_option maxHeartbeats 2000000 in
theorem waitsOk_any (o : Nat) (q : Opn) (lp : List (ProcD × Nat)) (ms me mb mf : MapL) (w : World) (h : OpenIn w w o q lp ms me mb mf) (hl : lp.length ≤ 1048576) (hwf : ∀ p ∈ lp, p.1.Wf) :
  Calls Tryz.prog 154 #[.pointer (some ⟨o, 0, none⟩)] w fun e w' => e = .returned (.bool (lp.all fun p => waitK ms me mb mf p.1)) ∧ Below w.heap.size w w' := by
 have H : Hid (OpenIn w w o q lp ms me mb mf ∧ ∀ p ∈ lp, p.1.Wf) := ⟨h, hwf⟩
 have c2 : w.cell? ⟨o, 2, none⟩ = some (.int .i64 6) := h.opn.cell 2
 have c3 : w.cell? ⟨o, 3, none⟩ = some (.map (some q.bp)) := h.opn.cell 3
 have hkl : (keysOf (fun x : ProcD => x.id) lp).length = lp.length := keysOf_length lp
 have HK : Hid ((keysOf (fun x : ProcD => x.id) lp).length = lp.length) := hkl
 clear h hwf hkl
 go_enter Tryz.func154, Tryz.ntmps154
 go_wp2_with fail
 refine (allProc_any 6 q.bp (keysOf (fun x : ProcD => x.id) lp) w H.out.1.shelf.map (by rw [HK.out]; exact hl) (keys_wf H.out.2)).mono ?_
 rintro e w2 ⟨a, cap, rfl, hown, hb2⟩
 obtain ⟨a', cap', hv, hrow⟩ := own_form hown
 cases hv
 have HR : Hid (Row w2 a ((keysOf (fun x : ProcD => x.id) lp).map fun p => ptrV p.2)) := hrow
 have HO : Hid (OpenIn w w2 o q lp ms me mb mf) := H.out.1.below hb2
 rw [HK.out]
 clear hown hrow hb2 c2 c3
 go_wp2_with fail
 go_loopw [11] (fun i wr => ∃ k : Nat, k ≤ lp.length ∧ i = .int .i64 k ∧ Hid (((lp.take k).all fun p => waitK ms me mb mf p.1) = true ∧ Below w2.heap.size w2 wr)) (fun i _ => lp.length - (intOf i).toNat)
 case atStart => exact ⟨0, Nat.zero_le _, rfl, ⟨by simp, Below.refl _ _⟩⟩
 case round =>
  obtain ⟨k, hk, rfl, HA⟩ := hrel
  have HO2 : Hid (OpenIn w wr o q lp ms me mb mf) := HO.out.below HA.out.2
  by_cases hlt : k < lp.length
  ·have i0 : (0 : Int) ≤ (k : Int) := by omega
   have i1 : (k : Int) < (lp.length : Int) := by omega
   obtain ⟨p, hp⟩ : ∃ p, lp[k]? = some p := ⟨_, List.getElem?_eq_getElem hlt⟩
   have hpm := List.mem_of_getElem? hp
   obtain ⟨g, ha, hc⟩ := (HR.out.below HA.out.2) k (ptrV p.2) (by simp [keysOf, hp])
   subst ha
   unfold ptrV at hc
   have HP : Hid (lp[k]? = some p ∧ p ∈ lp) := ⟨hp, hpm⟩
   clear hp hpm
   go_wp2_with fail
   refine (hasWait_any o p.2 q p.1 ms me mb mf wr (HO2.out.has HP.out.2) (H.out.2 p HP.out.2).on).mono ?_
   rintro e w4 ⟨rfl, hb4⟩
   have HB4 : Hid (Below w2.heap.size w2 w4) := HA.out.2.trans (hb4.mono HA.out.2.size)
   have HF4 : Hid (Below w.heap.size w w4) := HO2.out.bel.trans (hb4.mono HO2.out.bel.size)
   clear hb4
   cases hwt : waitK ms me mb mf p.1 with
   | true =>
    have HY : Hid (((lp.take (k + 1)).all fun p => waitK ms me mb mf p.1) = true) := by
     show _ = true
     rw [take_up HP.out.1, List.all_append, HA.out.1]
     simp [hwt]
    clear hwt
    go_wp2
    go_roundw
    case rel => exact ⟨k + 1, by omega, by go_num, ⟨HY.out, HB4.out⟩⟩
    case measure => simp [intOf]; omega
   | false =>
    have HN : Hid ((lp.all fun p => waitK ms me mb mf p.1) = false) := by
     show _ = false
     rw [List.all_eq_false]
     exact ⟨p, HP.out.2, by simp [hwt]⟩
    clear hwt
    go_wp2
    go_ret
    exact ⟨ret_bool HN.out.symm, HF4.out⟩
  ·have i1 : ¬ (k : Int) < (lp.length : Int) := by omega
   have HT : Hid ((lp.all fun p => waitK ms me mb mf p.1) = true) := by have := HA.out.1; rwa [List.take_of_length_le (by omega)] at this
   go_wp2
   go_ret
   exact ⟨ret_bool HT.out.symm, HO2.out.bel⟩
end Go.Proofs.YtkbcplnlehdjfaaGreat
