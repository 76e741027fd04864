/- The program's reader of an op. -/
import Derived.Test.YtlaeilcipibelaaGreatDoorOpCase
import Derived.Test.YtlaeilcipibelaaGreatDoorOpOk
namespace Go.Proofs.YtlaeilcipibelaaGreatDoor
open Go.RowKit

/-- How the reader of an op ends: with the one op whose text it is, or by giving up. -/
def OpEnds (s : ByteArray) (e : Ending) : Prop :=
  (∃ o : OpD, OpIs s o ∧ e = .returned (.agg #[.int .i64 o.1, .int .i64 o.2.1, .int .i64 o.2.2.1, .string o.2.2.2])) ∨ (e = .panicked upC ∧ ∀ o, ¬ OpIs s o)
theorem OpOn.bt {w x y : World} {p q : Nat} {k n m : Int} {t : ByteArray} (h : OpOn w q x k n m t) (hb : Bt p x y) (hw : Below w.heap.size w y) (hne : q ≠ p) : OpOn w q y k n m t := ⟨(hb.block q h.lt hne).trans h.row, hw, h.new⟩
/-- The answer's op, the reader and the op under making. -/
structure MOn (w : World) (p q : Nat) (x : World) (s : ByteArray) (f : Bool) (k n m : Int) (t : ByteArray) : Prop where
  res : OpOn w w.heap.size x 0 0 0 ⟨#[]⟩
  rd : RdOn w p x s f
  op : OpOn w q x k n m t
  rp : w.heap.size ≠ p
  rq : w.heap.size ≠ q
  pq : q ≠ p
theorem RdOn.other {w0 x : World} {p r i : Nat} {s : ByteArray} {f : Bool} (h : RdOn w0 p x s f) (hne : p ≠ r) (hr : w0.heap.size ≤ r) (v : Value) : RdOn w0 p (x.setCell ⟨r, i, none⟩ v) s f :=
  ⟨(Below.heap_setCell _ _ _ _ (by simpa using hne)).trans h.row, h.bel.setCell hr _, h.env, h.new, h.sz⟩
theorem MOn.below {w x y : World} {p q : Nat} {s : ByteArray} {f : Bool} {k n m : Int} {t : ByteArray} (h : MOn w p q x s f k n m t) (hb : Below x.heap.size x y) : MOn w p q y s f k n m t := ⟨h.res.below hb, h.rd.below hb, h.op.below hb, h.rp, h.rq, h.pq⟩
theorem MOn.setN {w x : World} {p q : Nat} {s : ByteArray} {f : Bool} {k n m : Int} {t : ByteArray} (h : MOn w p q x s f k n m t) (n' : Int) : MOn w p q (x.setCell ⟨q, 1, none⟩ (.int .i64 n')) s f k n' m t := ⟨h.res.other h.rq h.op.new _, h.rd.other h.pq.symm h.op.new _, h.op.setN n', h.rp, h.rq, h.pq⟩
theorem MOn.setM {w x : World} {p q : Nat} {s : ByteArray} {f : Bool} {k n m : Int} {t : ByteArray} (h : MOn w p q x s f k n m t) (m' : Int) : MOn w p q (x.setCell ⟨q, 2, none⟩ (.int .i64 m')) s f k n m' t := ⟨h.res.other h.rq h.op.new _, h.rd.other h.pq.symm h.op.new _, h.op.setM m', h.rp, h.rq, h.pq⟩
theorem MOn.setT {w x : World} {p q : Nat} {s : ByteArray} {f : Bool} {k n m : Int} {t : ByteArray} (h : MOn w p q x s f k n m t) (t' : ByteArray) : MOn w p q (x.setCell ⟨q, 3, none⟩ (.string t')) s f k n m t' := ⟨h.res.other h.rq h.op.new _, h.rd.other h.pq.symm h.op.new _, h.op.setT t', h.rp, h.rq, h.pq⟩
theorem MOn.read {w x y : World} {p q : Nat} {s b : ByteArray} {f g : Bool} {k n m : Int} {t : ByteArray} (h : MOn w p q x s f k n m t) (hr : RdOn w p y b g) (hb : Bt p x y) : MOn w p q y b g k n m t :=
  ⟨h.res.bt hb hr.bel h.rp, hr, h.op.bt hb hr.bel h.pq, h.rp, h.rq, h.pq⟩

set_option maxHeartbeats 8000000 in
theorem mustOp_num (s : ByteArray) (w : World) (hs : s.size ≤ 1048576) (he : EnvW w) (b : ByteArray) (f : Bool) (k : Int) (hc : First s k b f) (hk : isNum k) :
    Calls Tryz.prog 48 #[.string s] w fun e w' => OpEnds s e ∧ Below w.heap.size w w' := by
  have HK : Hid (First s k b f ∧ isNum k) := ⟨hc, hk⟩
  have HR0 : Hid (OpOn w w.heap.size ((w.alloc (.cells #[.int .i64 0, .int .i64 0, .int .i64 0, .string ⟨#[]⟩] 37)).alloc (.cells #[.string s, .bool true] 96)) 0 0 0 ⟨#[]⟩ ∧ RdOn w (w.heap.size + 1) ((w.alloc (.cells #[.int .i64 0, .int .i64 0, .int .i64 0, .string ⟨#[]⟩] 37)).alloc (.cells #[.string s, .bool true] 96)) s true) := by
    have hb : Below w.heap.size w ((w.alloc (.cells #[.int .i64 0, .int .i64 0, .int .i64 0, .string ⟨#[]⟩] 37)).alloc (.cells #[.string s, .bool true] 96)) := ((Below.refl _ _).alloc (Nat.le_refl _) _).alloc (by simp) _
    exact ⟨⟨(heap_alloc_old _ _ (by simp)).trans (heap_alloc_new _ _), hb, Nat.le_refl _⟩, ⟨by simpa using heap_alloc_new (w.alloc (.cells #[.int .i64 0, .int .i64 0, .int .i64 0, .string ⟨#[]⟩] 37)) (.cells #[.string s, .bool true] 96), hb, he, by omega, hs⟩⟩
  have HP : Hid (w.heap.size ≠ w.heap.size + 1) := by show _ ≠ _; omega
  have h_number := as_number_number (.agg #[.int .i64 k, .int .i64 0])
  clear hc hk he
  go_enter Tryz.func48, Tryz.ntmps48
  go_wp2_with fail
  generalize (w.alloc (.cells #[.int .i64 0, .int .i64 0, .int .i64 0, .string ⟨#[]⟩] 37)).alloc (.cells #[.string s, .bool true] 96) = W0 at *
  generalize w.heap.size + 1 = p at *
  refine (word_yes HR0.out.2).mono ?_
  rintro e w1 ⟨a', b', f', hc', rfl, hrd, hbt⟩
  obtain ⟨rfl, rfl, rfl⟩ := cut_same hc' HK.out.1.cut
  have HR1 : Hid (OpOn w w.heap.size w1 0 0 0 ⟨#[]⟩ ∧ RdOn w p w1 b' f') := ⟨HR0.out.1.bt hbt hrd.bel HP.out, hrd⟩
  clear hc' hrd hbt HR0
  go_wp2_with fail
  refine (kind_any (nameB k) w1 HR1.out.2.now.words).mono ?_
  rintro e w2 ⟨he, rfl⟩
  rcases he with ⟨k', hk', hn', rfl⟩ | ⟨rfl, hno⟩
  · obtain rfl : k' = k := name_inj hk' HK.out.1.rng hn'
    clear hk' hn'
    have HM2 : Hid (MOn w p w2.heap.size (w2.alloc (.cells #[.int .i64 k', .int .i64 0, .int .i64 0, .string ⟨#[]⟩] 37)) b' f' k' 0 0 ⟨#[]⟩) := by
      have hb : Below w2.heap.size w2 (w2.alloc (.cells #[.int .i64 k', .int .i64 0, .int .i64 0, .string ⟨#[]⟩] 37)) := (Below.refl _ _).alloc (Nat.le_refl _) _
      have l1 := HR1.out.1.lt
      have l2 := HR1.out.2.lt
      exact ⟨HR1.out.1.below hb, HR1.out.2.below hb, ⟨heap_alloc_new _ _, HR1.out.1.bel.alloc HR1.out.1.bel.size _, HR1.out.1.bel.size⟩, HP.out, by omega, by omega⟩
    clear HR1
    go_wp2_with fail
    generalize w2.alloc (.cells #[.int .i64 k', .int .i64 0, .int .i64 0, .string ⟨#[]⟩] 37) = W2 at *
    generalize w2.heap.size = q at *
    refine (formOf_num k' 0 0 ⟨#[]⟩ W2 HK.out.2).mono ?_
    rintro e w3 ⟨rfl, hb3⟩
    have HM3 : Hid (MOn w p q w3 b' f' k' 0 0 ⟨#[]⟩) := HM2.out.below hb3
    clear hb3 HM2
    go_wp2_with fail
    refine (number_any HM3.out.rd).mono ?_
    rintro e w4 h4
    rcases h4 with ⟨rfl, x, y, g, n, hcx, hd, rfl, hrd, hbt⟩ | ⟨rfl, hno, hbl⟩
    · have HM4 : Hid (MOn w p q w4 y g k' 0 0 ⟨#[]⟩) := HM3.out.read hrd hbt
      have HX : Hid (CutIs b' 32 x y g ∧ DecIs x n) := ⟨hcx, hd⟩
      clear hcx hd hrd hbt HM3
      have hpq := HM4.out.pq
      have hqp := HM4.out.pq.symm
      have o0 := HM4.out.op.c0
      have o1 := HM4.out.op.c1
      have o2 := HM4.out.op.c2
      have o3 := HM4.out.op.c3
      have b0 := HM4.out.rd.c0
      have b1 := HM4.out.rd.c1
      have oz1 := HM4.out.op.fz 1
      have oz2 := HM4.out.op.fz 2
      have oz3 := HM4.out.op.fz 3
      have HM5 : Hid (MOn w p q (w4.setCell ⟨q, 1, none⟩ (.int .i64 n)) y g k' n 0 ⟨#[]⟩) := HM4.out.setN n
      clear HM4
      cases g with
      | true =>
        have HZ : Hid (∀ o, ¬ OpIs s o) := fun o ho => by cases ((HK.out.1.num HK.out.2 HX.out.1 HX.out.2 ho).1)
        go_wp2_with (go_at_call 47; refine (giveUp_any _).mono ?_; rintro e w' ⟨rfl, rfl⟩)
        exact ⟨rfl, .inr ⟨rfl, HZ.out⟩, HM5.out.res.bel⟩
      | false =>
        go_wp2_with fail
        refine (implOpOk_any k' n 0 ⟨#[]⟩ _ (Nat.zero_le _)).mono ?_
        rintro e w9 ⟨rfl, hb9⟩
        have HM9 : Hid (MOn w p q w9 _ false k' n 0 ⟨#[]⟩) := HM5.out.below hb9
        clear hb9 HM5
        clear hpq hqp o0 o1 o2 o3 b0 b1 oz1 oz2 oz3
        cases hop : opB k' n 0 ⟨#[]⟩ with
        | true =>
          have HOP : Hid (opB k' n 0 ⟨#[]⟩ = true) := hop
          clear hop
          have hrq := HM9.out.rq
          have o0 := HM9.out.op.c0
          have o1 := HM9.out.op.c1
          have o2 := HM9.out.op.c2
          have o3 := HM9.out.op.c3
          have r0 := HM9.out.res.c0
          have r1 := HM9.out.res.c1
          have r2 := HM9.out.res.c2
          have r3 := HM9.out.res.c3
          have y0 := HM9.out.res.fz 0
          have y1 := HM9.out.res.fz 1
          have y2 := HM9.out.res.fz 2
          have y3 := HM9.out.res.fz 3
          go_wp2
          refine bodyPost_ret (opResults Tryz.results48 (by rfl) HM9.out.res.all) rfl ?_
          exact ⟨.inl ⟨_, HK.out.1.num_is HK.out.2 HX.out.1 HX.out.2 HOP.out, rfl⟩, HM9.out.res.all.bel⟩
        | false =>
          have HZ : Hid (∀ o, ¬ OpIs s o) := not_right (fun o ho => (HK.out.1.num HK.out.2 HX.out.1 HX.out.2 ho).2) hop
          clear hop
          go_wp2_with (go_at_call 47; refine (giveUp_any _).mono ?_; rintro e w' ⟨rfl, rfl⟩)
          exact ⟨rfl, .inr ⟨rfl, HZ.out⟩, HM9.out.res.bel⟩
    · have HZ : Hid (∀ o, ¬ OpIs s o) := HK.out.1.no_number (num_not HK.out.2).2.2 hno
      clear hno
      go_wp2
      exact ⟨rfl, .inr ⟨rfl, HZ.out⟩, hbl⟩
  · exact absurd rfl (hno k HK.out.1.rng)

set_option maxHeartbeats 8000000 in
theorem mustOp_wait (s : ByteArray) (w : World) (hs : s.size ≤ 1048576) (he : EnvW w) (b : ByteArray) (f : Bool) (k : Int) (hc : First s k b f) (hk : isWait k) :
    Calls Tryz.prog 48 #[.string s] w fun e w' => OpEnds s e ∧ Below w.heap.size w w' := by
  have HK : Hid (First s k b f ∧ isWait k) := ⟨hc, hk⟩
  have HR0 : Hid (OpOn w w.heap.size ((w.alloc (.cells #[.int .i64 0, .int .i64 0, .int .i64 0, .string ⟨#[]⟩] 37)).alloc (.cells #[.string s, .bool true] 96)) 0 0 0 ⟨#[]⟩ ∧ RdOn w (w.heap.size + 1) ((w.alloc (.cells #[.int .i64 0, .int .i64 0, .int .i64 0, .string ⟨#[]⟩] 37)).alloc (.cells #[.string s, .bool true] 96)) s true) := by
    have hb : Below w.heap.size w ((w.alloc (.cells #[.int .i64 0, .int .i64 0, .int .i64 0, .string ⟨#[]⟩] 37)).alloc (.cells #[.string s, .bool true] 96)) := ((Below.refl _ _).alloc (Nat.le_refl _) _).alloc (by simp) _
    exact ⟨⟨(heap_alloc_old _ _ (by simp)).trans (heap_alloc_new _ _), hb, Nat.le_refl _⟩, ⟨by simpa using heap_alloc_new (w.alloc (.cells #[.int .i64 0, .int .i64 0, .int .i64 0, .string ⟨#[]⟩] 37)) (.cells #[.string s, .bool true] 96), hb, he, by omega, hs⟩⟩
  have HP : Hid (w.heap.size ≠ w.heap.size + 1) := by show _ ≠ _; omega
  have h_number := as_wait_number (.agg #[.int .i64 k, .int .i64 0, .int .i64 0])
  have h_wait := as_wait_wait (.agg #[.int .i64 k, .int .i64 0, .int .i64 0])
  clear hc hk he
  go_enter Tryz.func48, Tryz.ntmps48
  go_wp2_with fail
  generalize (w.alloc (.cells #[.int .i64 0, .int .i64 0, .int .i64 0, .string ⟨#[]⟩] 37)).alloc (.cells #[.string s, .bool true] 96) = W0 at *
  generalize w.heap.size + 1 = p at *
  refine (word_yes HR0.out.2).mono ?_
  rintro e w1 ⟨a', b', f', hc', rfl, hrd, hbt⟩
  obtain ⟨rfl, rfl, rfl⟩ := cut_same hc' HK.out.1.cut
  have HR1 : Hid (OpOn w w.heap.size w1 0 0 0 ⟨#[]⟩ ∧ RdOn w p w1 b' f') := ⟨HR0.out.1.bt hbt hrd.bel HP.out, hrd⟩
  clear hc' hrd hbt HR0
  go_wp2_with fail
  refine (kind_any (nameB k) w1 HR1.out.2.now.words).mono ?_
  rintro e w2 ⟨he, rfl⟩
  rcases he with ⟨k', hk', hn', rfl⟩ | ⟨rfl, hno⟩
  · obtain rfl : k' = k := name_inj hk' HK.out.1.rng hn'
    clear hk' hn'
    have HM2 : Hid (MOn w p w2.heap.size (w2.alloc (.cells #[.int .i64 k', .int .i64 0, .int .i64 0, .string ⟨#[]⟩] 37)) b' f' k' 0 0 ⟨#[]⟩) := by
      have hb : Below w2.heap.size w2 (w2.alloc (.cells #[.int .i64 k', .int .i64 0, .int .i64 0, .string ⟨#[]⟩] 37)) := (Below.refl _ _).alloc (Nat.le_refl _) _
      have l1 := HR1.out.1.lt
      have l2 := HR1.out.2.lt
      exact ⟨HR1.out.1.below hb, HR1.out.2.below hb, ⟨heap_alloc_new _ _, HR1.out.1.bel.alloc HR1.out.1.bel.size _, HR1.out.1.bel.size⟩, HP.out, by omega, by omega⟩
    clear HR1
    go_wp2_with fail
    generalize w2.alloc (.cells #[.int .i64 k', .int .i64 0, .int .i64 0, .string ⟨#[]⟩] 37) = W2 at *
    generalize w2.heap.size = q at *
    refine (formOf_wait k' 0 0 ⟨#[]⟩ W2 HK.out.2).mono ?_
    rintro e w3 ⟨rfl, hb3⟩
    have HM3 : Hid (MOn w p q w3 b' f' k' 0 0 ⟨#[]⟩) := HM2.out.below hb3
    clear hb3 HM2
    go_wp2_with fail
    refine (number_any HM3.out.rd).mono ?_
    rintro e w4 h4
    rcases h4 with ⟨rfl, x, y, g, n, hcx, hd, rfl, hrd, hbt⟩ | ⟨rfl, hno, hbl⟩
    · have HM4 : Hid (MOn w p q w4 y g k' 0 0 ⟨#[]⟩) := HM3.out.read hrd hbt
      have HX : Hid (CutIs b' 32 x y g ∧ DecIs x n) := ⟨hcx, hd⟩
      clear hcx hd hrd hbt HM3
      have hpq := HM4.out.pq
      have hqp := HM4.out.pq.symm
      have o0 := HM4.out.op.c0
      have o1 := HM4.out.op.c1
      have o2 := HM4.out.op.c2
      have o3 := HM4.out.op.c3
      have b0 := HM4.out.rd.c0
      have b1 := HM4.out.rd.c1
      have oz1 := HM4.out.op.fz 1
      have oz2 := HM4.out.op.fz 2
      have oz3 := HM4.out.op.fz 3
      have HM5 : Hid (MOn w p q (w4.setCell ⟨q, 1, none⟩ (.int .i64 n)) y g k' n 0 ⟨#[]⟩) := HM4.out.setN n
      clear HM4
      go_wp2_with fail
      generalize w4.setCell ⟨q, 1, none⟩ (.int .i64 n) = W4 at *
      clear hpq hqp o0 o1 o2 o3 b0 b1 oz1 oz2 oz3
      refine (number_any HM5.out.rd).mono ?_
      rintro e w5 h4
      rcases h4 with ⟨rfl, x2, y2, g2, m, hcx, hd, rfl, hrd, hbt⟩ | ⟨rfl, hno, hbl⟩
      · have HM6 : Hid (MOn w p q w5 y2 g2 k' n 0 ⟨#[]⟩) := HM5.out.read hrd hbt
        have HX2 : Hid (CutIs y 32 x2 y2 g2 ∧ DecIs x2 m) := ⟨hcx, hd⟩
        clear hcx hd hrd hbt HM5
        have hpq := HM6.out.pq
        have hqp := HM6.out.pq.symm
        have o0 := HM6.out.op.c0
        have o1 := HM6.out.op.c1
        have o2 := HM6.out.op.c2
        have o3 := HM6.out.op.c3
        have b0 := HM6.out.rd.c0
        have b1 := HM6.out.rd.c1
        have oz1 := HM6.out.op.fz 1
        have oz2 := HM6.out.op.fz 2
        have oz3 := HM6.out.op.fz 3
        have HM7 : Hid (MOn w p q (w5.setCell ⟨q, 2, none⟩ (.int .i64 m)) y2 g2 k' n m ⟨#[]⟩) := HM6.out.setM m
        clear HM6
        cases g2 with
        | true =>
          have HZ : Hid (∀ o, ¬ OpIs s o) := fun o ho => by cases ((HK.out.1.wait HK.out.2 HX.out.1 HX.out.2 HX2.out.1 HX2.out.2 ho).1)
          go_wp2_with (go_at_call 47; refine (giveUp_any _).mono ?_; rintro e w' ⟨rfl, rfl⟩)
          exact ⟨rfl, .inr ⟨rfl, HZ.out⟩, HM7.out.res.bel⟩
        | false =>
          go_wp2_with fail
          refine (implOpOk_any k' n m ⟨#[]⟩ _ (Nat.zero_le _)).mono ?_
          rintro e w9 ⟨rfl, hb9⟩
          have HM9 : Hid (MOn w p q w9 _ false k' n m ⟨#[]⟩) := HM7.out.below hb9
          clear hb9 HM7
          clear hpq hqp o0 o1 o2 o3 b0 b1 oz1 oz2 oz3
          cases hop : opB k' n m ⟨#[]⟩ with
          | true =>
            have HOP : Hid (opB k' n m ⟨#[]⟩ = true) := hop
            clear hop
            have hrq := HM9.out.rq
            have o0 := HM9.out.op.c0
            have o1 := HM9.out.op.c1
            have o2 := HM9.out.op.c2
            have o3 := HM9.out.op.c3
            have r0 := HM9.out.res.c0
            have r1 := HM9.out.res.c1
            have r2 := HM9.out.res.c2
            have r3 := HM9.out.res.c3
            have y0 := HM9.out.res.fz 0
            have y1 := HM9.out.res.fz 1
            have y2 := HM9.out.res.fz 2
            have y3 := HM9.out.res.fz 3
            go_wp2
            refine bodyPost_ret (opResults Tryz.results48 (by rfl) HM9.out.res.all) rfl ?_
            exact ⟨.inl ⟨_, HK.out.1.wait_is HK.out.2 HX.out.1 HX.out.2 HX2.out.1 HX2.out.2 HOP.out, rfl⟩, HM9.out.res.all.bel⟩
          | false =>
            have HZ : Hid (∀ o, ¬ OpIs s o) := not_right (fun o ho => (HK.out.1.wait HK.out.2 HX.out.1 HX.out.2 HX2.out.1 HX2.out.2 ho).2) hop
            clear hop
            go_wp2_with (go_at_call 47; refine (giveUp_any _).mono ?_; rintro e w' ⟨rfl, rfl⟩)
            exact ⟨rfl, .inr ⟨rfl, HZ.out⟩, HM9.out.res.bel⟩
      · have HZ : Hid (∀ o, ¬ OpIs s o) := HK.out.1.wait_no HK.out.2 HX.out.1 HX.out.2 hno
        clear hno
        go_wp2
        exact ⟨rfl, .inr ⟨rfl, HZ.out⟩, hbl⟩
    · have HZ : Hid (∀ o, ¬ OpIs s o) := HK.out.1.no_number (wait_not HK.out.2).2.2 hno
      clear hno
      go_wp2
      exact ⟨rfl, .inr ⟨rfl, HZ.out⟩, hbl⟩
  · exact absurd rfl (hno k HK.out.1.rng)

set_option maxHeartbeats 8000000 in
theorem mustOp_send (s : ByteArray) (w : World) (hs : s.size ≤ 1048576) (he : EnvW w) (b : ByteArray) (f : Bool) (k : Int) (hc : First s k b f) (hk : k = 8) :
    Calls Tryz.prog 48 #[.string s] w fun e w' => OpEnds s e ∧ Below w.heap.size w w' := by
  have HK : Hid (First s k b f ∧ k = 8) := ⟨hc, hk⟩
  have HR0 : Hid (OpOn w w.heap.size ((w.alloc (.cells #[.int .i64 0, .int .i64 0, .int .i64 0, .string ⟨#[]⟩] 37)).alloc (.cells #[.string s, .bool true] 96)) 0 0 0 ⟨#[]⟩ ∧ RdOn w (w.heap.size + 1) ((w.alloc (.cells #[.int .i64 0, .int .i64 0, .int .i64 0, .string ⟨#[]⟩] 37)).alloc (.cells #[.string s, .bool true] 96)) s true) := by
    have hb : Below w.heap.size w ((w.alloc (.cells #[.int .i64 0, .int .i64 0, .int .i64 0, .string ⟨#[]⟩] 37)).alloc (.cells #[.string s, .bool true] 96)) := ((Below.refl _ _).alloc (Nat.le_refl _) _).alloc (by simp) _
    exact ⟨⟨(heap_alloc_old _ _ (by simp)).trans (heap_alloc_new _ _), hb, Nat.le_refl _⟩, ⟨by simpa using heap_alloc_new (w.alloc (.cells #[.int .i64 0, .int .i64 0, .int .i64 0, .string ⟨#[]⟩] 37)) (.cells #[.string s, .bool true] 96), hb, he, by omega, hs⟩⟩
  have HP : Hid (w.heap.size ≠ w.heap.size + 1) := by show _ ≠ _; omega
  have h_number := as_send_number (.agg #[.int .i64 k, .int .i64 0, .int .i64 0, .string ⟨#[]⟩])
  have h_wait := as_send_wait (.agg #[.int .i64 k, .int .i64 0, .int .i64 0, .string ⟨#[]⟩])
  have h_send := as_send_send (.agg #[.int .i64 k, .int .i64 0, .int .i64 0, .string ⟨#[]⟩])
  clear hc hk he
  go_enter Tryz.func48, Tryz.ntmps48
  go_wp2_with fail
  generalize (w.alloc (.cells #[.int .i64 0, .int .i64 0, .int .i64 0, .string ⟨#[]⟩] 37)).alloc (.cells #[.string s, .bool true] 96) = W0 at *
  generalize w.heap.size + 1 = p at *
  refine (word_yes HR0.out.2).mono ?_
  rintro e w1 ⟨a', b', f', hc', rfl, hrd, hbt⟩
  obtain ⟨rfl, rfl, rfl⟩ := cut_same hc' HK.out.1.cut
  have HR1 : Hid (OpOn w w.heap.size w1 0 0 0 ⟨#[]⟩ ∧ RdOn w p w1 b' f') := ⟨HR0.out.1.bt hbt hrd.bel HP.out, hrd⟩
  clear hc' hrd hbt HR0
  go_wp2_with fail
  refine (kind_any (nameB k) w1 HR1.out.2.now.words).mono ?_
  rintro e w2 ⟨he, rfl⟩
  rcases he with ⟨k', hk', hn', rfl⟩ | ⟨rfl, hno⟩
  · obtain rfl : k' = k := name_inj hk' HK.out.1.rng hn'
    clear hk' hn'
    have HM2 : Hid (MOn w p w2.heap.size (w2.alloc (.cells #[.int .i64 k', .int .i64 0, .int .i64 0, .string ⟨#[]⟩] 37)) b' f' k' 0 0 ⟨#[]⟩) := by
      have hb : Below w2.heap.size w2 (w2.alloc (.cells #[.int .i64 k', .int .i64 0, .int .i64 0, .string ⟨#[]⟩] 37)) := (Below.refl _ _).alloc (Nat.le_refl _) _
      have l1 := HR1.out.1.lt
      have l2 := HR1.out.2.lt
      exact ⟨HR1.out.1.below hb, HR1.out.2.below hb, ⟨heap_alloc_new _ _, HR1.out.1.bel.alloc HR1.out.1.bel.size _, HR1.out.1.bel.size⟩, HP.out, by omega, by omega⟩
    clear HR1
    go_wp2_with fail
    generalize w2.alloc (.cells #[.int .i64 k', .int .i64 0, .int .i64 0, .string ⟨#[]⟩] 37) = W2 at *
    generalize w2.heap.size = q at *
    refine (formOf_send k' 0 0 ⟨#[]⟩ W2 HK.out.2).mono ?_
    rintro e w3 ⟨rfl, hb3⟩
    have HM3 : Hid (MOn w p q w3 b' f' k' 0 0 ⟨#[]⟩) := HM2.out.below hb3
    clear hb3 HM2
    go_wp2_with fail
    refine (number_any HM3.out.rd).mono ?_
    rintro e w4 h4
    rcases h4 with ⟨rfl, x, y, g, n, hcx, hd, rfl, hrd, hbt⟩ | ⟨rfl, hno, hbl⟩
    · have HM4 : Hid (MOn w p q w4 y g k' 0 0 ⟨#[]⟩) := HM3.out.read hrd hbt
      have HX : Hid (CutIs b' 32 x y g ∧ DecIs x n) := ⟨hcx, hd⟩
      clear hcx hd hrd hbt HM3
      have hpq := HM4.out.pq
      have hqp := HM4.out.pq.symm
      have o0 := HM4.out.op.c0
      have o1 := HM4.out.op.c1
      have o2 := HM4.out.op.c2
      have o3 := HM4.out.op.c3
      have b0 := HM4.out.rd.c0
      have b1 := HM4.out.rd.c1
      have oz1 := HM4.out.op.fz 1
      have oz2 := HM4.out.op.fz 2
      have oz3 := HM4.out.op.fz 3
      have HM5 : Hid (MOn w p q (w4.setCell ⟨q, 1, none⟩ (.int .i64 n)) y g k' n 0 ⟨#[]⟩) := HM4.out.setN n
      clear HM4
      go_wp2_with fail
      generalize w4.setCell ⟨q, 1, none⟩ (.int .i64 n) = W4 at *
      clear hpq hqp o0 o1 o2 o3 b0 b1 oz1 oz2 oz3
      refine (number_any HM5.out.rd).mono ?_
      rintro e w5 h4
      rcases h4 with ⟨rfl, x2, y2, g2, m, hcx, hd, rfl, hrd, hbt⟩ | ⟨rfl, hno, hbl⟩
      · have HM6 : Hid (MOn w p q w5 y2 g2 k' n 0 ⟨#[]⟩) := HM5.out.read hrd hbt
        have HX2 : Hid (CutIs y 32 x2 y2 g2 ∧ DecIs x2 m) := ⟨hcx, hd⟩
        clear hcx hd hrd hbt HM5
        have hpq := HM6.out.pq
        have hqp := HM6.out.pq.symm
        have o0 := HM6.out.op.c0
        have o1 := HM6.out.op.c1
        have o2 := HM6.out.op.c2
        have o3 := HM6.out.op.c3
        have b0 := HM6.out.rd.c0
        have b1 := HM6.out.rd.c1
        have oz1 := HM6.out.op.fz 1
        have oz2 := HM6.out.op.fz 2
        have oz3 := HM6.out.op.fz 3
        have HM7 : Hid (MOn w p q (w5.setCell ⟨q, 2, none⟩ (.int .i64 m)) y2 g2 k' n m ⟨#[]⟩) := HM6.out.setM m
        clear HM6
        go_wp2_with fail
        generalize w5.setCell ⟨q, 2, none⟩ (.int .i64 m) = W5 at *
        clear hpq hqp o0 o1 o2 o3 b0 b1 oz1 oz2 oz3
        cases g2 with
        | false =>
          have HZ : Hid (∀ o, ¬ OpIs s o) := fun o ho => by cases (HK.out.1.send HK.out.2 HX.out.1 HX.out.2 HX2.out.1 HX2.out.2 ho).1
          refine (text_no HM7.out.rd).mono ?_
          rintro e w6 ⟨rfl, rfl⟩
          go_wp2
          exact ⟨rfl, .inr ⟨rfl, HZ.out⟩, HM7.out.res.bel⟩
        | true =>
          have hy2 := HM7.out.rd.sz
          refine (text_yes HM7.out.rd).mono ?_
          rintro e w6 ⟨rfl, hrd, hbt⟩
          have HM8 : Hid (MOn w p q w6 ⟨#[]⟩ false k' n m ⟨#[]⟩) := HM7.out.read hrd hbt
          clear hrd hbt HM7
          have hpq := HM8.out.pq
          have hqp := HM8.out.pq.symm
          have o0 := HM8.out.op.c0
          have o1 := HM8.out.op.c1
          have o2 := HM8.out.op.c2
          have o3 := HM8.out.op.c3
          have b0 := HM8.out.rd.c0
          have b1 := HM8.out.rd.c1
          have oz1 := HM8.out.op.fz 1
          have oz2 := HM8.out.op.fz 2
          have oz3 := HM8.out.op.fz 3
          have HMA : Hid (MOn w p q (w6.setCell ⟨q, 3, none⟩ (.string y2)) ⟨#[]⟩ false k' n m y2) := HM8.out.setT y2
          clear HM8
          go_wp2_with fail
          refine (implOpOk_any k' n m y2 _ hy2).mono ?_
          rintro e w9 ⟨rfl, hb9⟩
          have HM9 : Hid (MOn w p q w9 _ false k' n m y2) := HMA.out.below hb9
          clear hb9 HMA
          clear hpq hqp o0 o1 o2 o3 b0 b1 oz1 oz2 oz3
          cases hop : opB k' n m y2 with
          | true =>
            have HOP : Hid (opB k' n m y2 = true) := hop
            clear hop
            have hrq := HM9.out.rq
            have o0 := HM9.out.op.c0
            have o1 := HM9.out.op.c1
            have o2 := HM9.out.op.c2
            have o3 := HM9.out.op.c3
            have r0 := HM9.out.res.c0
            have r1 := HM9.out.res.c1
            have r2 := HM9.out.res.c2
            have r3 := HM9.out.res.c3
            have y0 := HM9.out.res.fz 0
            have y1 := HM9.out.res.fz 1
            have y2 := HM9.out.res.fz 2
            have y3 := HM9.out.res.fz 3
            go_wp2
            refine bodyPost_ret (opResults Tryz.results48 (by rfl) HM9.out.res.all) rfl ?_
            exact ⟨.inl ⟨_, HK.out.1.send_is HK.out.2 HX.out.1 HX.out.2 HX2.out.1 HX2.out.2 HOP.out, rfl⟩, HM9.out.res.all.bel⟩
          | false =>
            have HZ : Hid (∀ o, ¬ OpIs s o) := not_right (fun o ho => (HK.out.1.send HK.out.2 HX.out.1 HX.out.2 HX2.out.1 HX2.out.2 ho).2) hop
            clear hop
            go_wp2_with (go_at_call 47; refine (giveUp_any _).mono ?_; rintro e w' ⟨rfl, rfl⟩)
            exact ⟨rfl, .inr ⟨rfl, HZ.out⟩, HM9.out.res.bel⟩
      · have HZ : Hid (∀ o, ¬ OpIs s o) := HK.out.1.send_no HK.out.2 HX.out.1 HX.out.2 hno
        clear hno
        go_wp2
        exact ⟨rfl, .inr ⟨rfl, HZ.out⟩, hbl⟩
    · have HZ : Hid (∀ o, ¬ OpIs s o) := HK.out.1.no_number (by have := HK.out.2; omega) hno
      clear hno
      go_wp2
      exact ⟨rfl, .inr ⟨rfl, HZ.out⟩, hbl⟩
  · exact absurd rfl (hno k HK.out.1.rng)

set_option maxHeartbeats 8000000 in
theorem mustOp_text (s : ByteArray) (w : World) (hs : s.size ≤ 1048576) (he : EnvW w) (b : ByteArray) (f : Bool) (k : Int) (hc : First s k b f) (hk : isText k) :
    Calls Tryz.prog 48 #[.string s] w fun e w' => OpEnds s e ∧ Below w.heap.size w w' := by
  have HK : Hid (First s k b f ∧ isText k) := ⟨hc, hk⟩
  have HR0 : Hid (OpOn w w.heap.size ((w.alloc (.cells #[.int .i64 0, .int .i64 0, .int .i64 0, .string ⟨#[]⟩] 37)).alloc (.cells #[.string s, .bool true] 96)) 0 0 0 ⟨#[]⟩ ∧ RdOn w (w.heap.size + 1) ((w.alloc (.cells #[.int .i64 0, .int .i64 0, .int .i64 0, .string ⟨#[]⟩] 37)).alloc (.cells #[.string s, .bool true] 96)) s true) := by
    have hb : Below w.heap.size w ((w.alloc (.cells #[.int .i64 0, .int .i64 0, .int .i64 0, .string ⟨#[]⟩] 37)).alloc (.cells #[.string s, .bool true] 96)) := ((Below.refl _ _).alloc (Nat.le_refl _) _).alloc (by simp) _
    exact ⟨⟨(heap_alloc_old _ _ (by simp)).trans (heap_alloc_new _ _), hb, Nat.le_refl _⟩, ⟨by simpa using heap_alloc_new (w.alloc (.cells #[.int .i64 0, .int .i64 0, .int .i64 0, .string ⟨#[]⟩] 37)) (.cells #[.string s, .bool true] 96), hb, he, by omega, hs⟩⟩
  have HP : Hid (w.heap.size ≠ w.heap.size + 1) := by show _ ≠ _; omega
  have h_number := as_text_number (.agg #[.int .i64 k, .int .i64 0, .string ⟨#[]⟩])
  have h_wait := as_text_wait (.agg #[.int .i64 k, .int .i64 0, .string ⟨#[]⟩])
  have h_send := as_text_send (.agg #[.int .i64 k, .int .i64 0, .string ⟨#[]⟩])
  have h_text := as_text_text (.agg #[.int .i64 k, .int .i64 0, .string ⟨#[]⟩])
  clear hc hk he
  go_enter Tryz.func48, Tryz.ntmps48
  go_wp2_with fail
  generalize (w.alloc (.cells #[.int .i64 0, .int .i64 0, .int .i64 0, .string ⟨#[]⟩] 37)).alloc (.cells #[.string s, .bool true] 96) = W0 at *
  generalize w.heap.size + 1 = p at *
  refine (word_yes HR0.out.2).mono ?_
  rintro e w1 ⟨a', b', f', hc', rfl, hrd, hbt⟩
  obtain ⟨rfl, rfl, rfl⟩ := cut_same hc' HK.out.1.cut
  have HR1 : Hid (OpOn w w.heap.size w1 0 0 0 ⟨#[]⟩ ∧ RdOn w p w1 b' f') := ⟨HR0.out.1.bt hbt hrd.bel HP.out, hrd⟩
  clear hc' hrd hbt HR0
  go_wp2_with fail
  refine (kind_any (nameB k) w1 HR1.out.2.now.words).mono ?_
  rintro e w2 ⟨he, rfl⟩
  rcases he with ⟨k', hk', hn', rfl⟩ | ⟨rfl, hno⟩
  · obtain rfl : k' = k := name_inj hk' HK.out.1.rng hn'
    clear hk' hn'
    have HM2 : Hid (MOn w p w2.heap.size (w2.alloc (.cells #[.int .i64 k', .int .i64 0, .int .i64 0, .string ⟨#[]⟩] 37)) b' f' k' 0 0 ⟨#[]⟩) := by
      have hb : Below w2.heap.size w2 (w2.alloc (.cells #[.int .i64 k', .int .i64 0, .int .i64 0, .string ⟨#[]⟩] 37)) := (Below.refl _ _).alloc (Nat.le_refl _) _
      have l1 := HR1.out.1.lt
      have l2 := HR1.out.2.lt
      exact ⟨HR1.out.1.below hb, HR1.out.2.below hb, ⟨heap_alloc_new _ _, HR1.out.1.bel.alloc HR1.out.1.bel.size _, HR1.out.1.bel.size⟩, HP.out, by omega, by omega⟩
    clear HR1
    go_wp2_with fail
    generalize w2.alloc (.cells #[.int .i64 k', .int .i64 0, .int .i64 0, .string ⟨#[]⟩] 37) = W2 at *
    generalize w2.heap.size = q at *
    refine (formOf_text k' 0 0 ⟨#[]⟩ W2 HK.out.2).mono ?_
    rintro e w3 ⟨rfl, hb3⟩
    have HM3 : Hid (MOn w p q w3 b' f' k' 0 0 ⟨#[]⟩) := HM2.out.below hb3
    clear hb3 HM2
    go_wp2_with fail
    refine (number_any HM3.out.rd).mono ?_
    rintro e w4 h4
    rcases h4 with ⟨rfl, x, y, g, n, hcx, hd, rfl, hrd, hbt⟩ | ⟨rfl, hno, hbl⟩
    · have HM4 : Hid (MOn w p q w4 y g k' 0 0 ⟨#[]⟩) := HM3.out.read hrd hbt
      have HX : Hid (CutIs b' 32 x y g ∧ DecIs x n) := ⟨hcx, hd⟩
      clear hcx hd hrd hbt HM3
      have hpq := HM4.out.pq
      have hqp := HM4.out.pq.symm
      have o0 := HM4.out.op.c0
      have o1 := HM4.out.op.c1
      have o2 := HM4.out.op.c2
      have o3 := HM4.out.op.c3
      have b0 := HM4.out.rd.c0
      have b1 := HM4.out.rd.c1
      have oz1 := HM4.out.op.fz 1
      have oz2 := HM4.out.op.fz 2
      have oz3 := HM4.out.op.fz 3
      have HM5 : Hid (MOn w p q (w4.setCell ⟨q, 1, none⟩ (.int .i64 n)) y g k' n 0 ⟨#[]⟩) := HM4.out.setN n
      clear HM4
      go_wp2_with fail
      generalize w4.setCell ⟨q, 1, none⟩ (.int .i64 n) = W4 at *
      clear hpq hqp o0 o1 o2 o3 b0 b1 oz1 oz2 oz3
      cases g with
      | false =>
        have HZ : Hid (∀ o, ¬ OpIs s o) := fun o ho => by cases (HK.out.1.text HK.out.2 HX.out.1 HX.out.2 ho).1
        refine (text_no HM5.out.rd).mono ?_
        rintro e w6 ⟨rfl, rfl⟩
        go_wp2
        exact ⟨rfl, .inr ⟨rfl, HZ.out⟩, HM5.out.res.bel⟩
      | true =>
        have hy2 := HM5.out.rd.sz
        refine (text_yes HM5.out.rd).mono ?_
        rintro e w6 ⟨rfl, hrd, hbt⟩
        have HM8 : Hid (MOn w p q w6 ⟨#[]⟩ false k' n 0 ⟨#[]⟩) := HM5.out.read hrd hbt
        clear hrd hbt HM5
        have hpq := HM8.out.pq
        have hqp := HM8.out.pq.symm
        have o0 := HM8.out.op.c0
        have o1 := HM8.out.op.c1
        have o2 := HM8.out.op.c2
        have o3 := HM8.out.op.c3
        have b0 := HM8.out.rd.c0
        have b1 := HM8.out.rd.c1
        have oz1 := HM8.out.op.fz 1
        have oz2 := HM8.out.op.fz 2
        have oz3 := HM8.out.op.fz 3
        have HMA : Hid (MOn w p q (w6.setCell ⟨q, 3, none⟩ (.string y)) ⟨#[]⟩ false k' n 0 y) := HM8.out.setT y
        clear HM8
        go_wp2_with fail
        refine (implOpOk_any k' n 0 y _ hy2).mono ?_
        rintro e w9 ⟨rfl, hb9⟩
        have HM9 : Hid (MOn w p q w9 _ false k' n 0 y) := HMA.out.below hb9
        clear hb9 HMA
        clear hpq hqp o0 o1 o2 o3 b0 b1 oz1 oz2 oz3
        cases hop : opB k' n 0 y with
        | true =>
          have HOP : Hid (opB k' n 0 y = true) := hop
          clear hop
          have hrq := HM9.out.rq
          have o0 := HM9.out.op.c0
          have o1 := HM9.out.op.c1
          have o2 := HM9.out.op.c2
          have o3 := HM9.out.op.c3
          have r0 := HM9.out.res.c0
          have r1 := HM9.out.res.c1
          have r2 := HM9.out.res.c2
          have r3 := HM9.out.res.c3
          have y0 := HM9.out.res.fz 0
          have y1 := HM9.out.res.fz 1
          have y2 := HM9.out.res.fz 2
          have y3 := HM9.out.res.fz 3
          go_wp2
          refine bodyPost_ret (opResults Tryz.results48 (by rfl) HM9.out.res.all) rfl ?_
          exact ⟨.inl ⟨_, HK.out.1.text_is HK.out.2 HX.out.1 HX.out.2 HOP.out, rfl⟩, HM9.out.res.all.bel⟩
        | false =>
          have HZ : Hid (∀ o, ¬ OpIs s o) := not_right (fun o ho => (HK.out.1.text HK.out.2 HX.out.1 HX.out.2 ho).2) hop
          clear hop
          go_wp2_with (go_at_call 47; refine (giveUp_any _).mono ?_; rintro e w' ⟨rfl, rfl⟩)
          exact ⟨rfl, .inr ⟨rfl, HZ.out⟩, HM9.out.res.bel⟩
    · have HZ : Hid (∀ o, ¬ OpIs s o) := HK.out.1.no_number (text_not HK.out.2).2.2 hno
      clear hno
      go_wp2
      exact ⟨rfl, .inr ⟨rfl, HZ.out⟩, hbl⟩
  · exact absurd rfl (hno k HK.out.1.rng)

set_option maxHeartbeats 8000000 in
theorem mustOp_loop (s : ByteArray) (w : World) (hs : s.size ≤ 1048576) (he : EnvW w) (b : ByteArray) (f : Bool) (k : Int) (hc : First s k b f) (hk : k = 17) :
    Calls Tryz.prog 48 #[.string s] w fun e w' => OpEnds s e ∧ Below w.heap.size w w' := by
  have HK : Hid (First s k b f ∧ k = 17) := ⟨hc, hk⟩
  have HR0 : Hid (OpOn w w.heap.size ((w.alloc (.cells #[.int .i64 0, .int .i64 0, .int .i64 0, .string ⟨#[]⟩] 37)).alloc (.cells #[.string s, .bool true] 96)) 0 0 0 ⟨#[]⟩ ∧ RdOn w (w.heap.size + 1) ((w.alloc (.cells #[.int .i64 0, .int .i64 0, .int .i64 0, .string ⟨#[]⟩] 37)).alloc (.cells #[.string s, .bool true] 96)) s true) := by
    have hb : Below w.heap.size w ((w.alloc (.cells #[.int .i64 0, .int .i64 0, .int .i64 0, .string ⟨#[]⟩] 37)).alloc (.cells #[.string s, .bool true] 96)) := ((Below.refl _ _).alloc (Nat.le_refl _) _).alloc (by simp) _
    exact ⟨⟨(heap_alloc_old _ _ (by simp)).trans (heap_alloc_new _ _), hb, Nat.le_refl _⟩, ⟨by simpa using heap_alloc_new (w.alloc (.cells #[.int .i64 0, .int .i64 0, .int .i64 0, .string ⟨#[]⟩] 37)) (.cells #[.string s, .bool true] 96), hb, he, by omega, hs⟩⟩
  have HP : Hid (w.heap.size ≠ w.heap.size + 1) := by show _ ≠ _; omega
  have h_number := as_bare_number (.agg #[.int .i64 k])
  have h_wait := as_bare_wait (.agg #[.int .i64 k])
  have h_send := as_bare_send (.agg #[.int .i64 k])
  have h_text := as_bare_text (.agg #[.int .i64 k])
  clear hc hk he
  go_enter Tryz.func48, Tryz.ntmps48
  go_wp2_with fail
  generalize (w.alloc (.cells #[.int .i64 0, .int .i64 0, .int .i64 0, .string ⟨#[]⟩] 37)).alloc (.cells #[.string s, .bool true] 96) = W0 at *
  generalize w.heap.size + 1 = p at *
  refine (word_yes HR0.out.2).mono ?_
  rintro e w1 ⟨a', b', f', hc', rfl, hrd, hbt⟩
  obtain ⟨rfl, rfl, rfl⟩ := cut_same hc' HK.out.1.cut
  have HR1 : Hid (OpOn w w.heap.size w1 0 0 0 ⟨#[]⟩ ∧ RdOn w p w1 b' f') := ⟨HR0.out.1.bt hbt hrd.bel HP.out, hrd⟩
  clear hc' hrd hbt HR0
  go_wp2_with fail
  refine (kind_any (nameB k) w1 HR1.out.2.now.words).mono ?_
  rintro e w2 ⟨he, rfl⟩
  rcases he with ⟨k', hk', hn', rfl⟩ | ⟨rfl, hno⟩
  · obtain rfl : k' = k := name_inj hk' HK.out.1.rng hn'
    clear hk' hn'
    have HM2 : Hid (MOn w p w2.heap.size (w2.alloc (.cells #[.int .i64 k', .int .i64 0, .int .i64 0, .string ⟨#[]⟩] 37)) b' f' k' 0 0 ⟨#[]⟩) := by
      have hb : Below w2.heap.size w2 (w2.alloc (.cells #[.int .i64 k', .int .i64 0, .int .i64 0, .string ⟨#[]⟩] 37)) := (Below.refl _ _).alloc (Nat.le_refl _) _
      have l1 := HR1.out.1.lt
      have l2 := HR1.out.2.lt
      exact ⟨HR1.out.1.below hb, HR1.out.2.below hb, ⟨heap_alloc_new _ _, HR1.out.1.bel.alloc HR1.out.1.bel.size _, HR1.out.1.bel.size⟩, HP.out, by omega, by omega⟩
    clear HR1
    go_wp2_with fail
    generalize w2.alloc (.cells #[.int .i64 k', .int .i64 0, .int .i64 0, .string ⟨#[]⟩] 37) = W2 at *
    generalize w2.heap.size = q at *
    refine (formOf_loop k' 0 0 ⟨#[]⟩ W2 HK.out.2).mono ?_
    rintro e w3 ⟨rfl, hb3⟩
    have HM3 : Hid (MOn w p q w3 b' f' k' 0 0 ⟨#[]⟩) := HM2.out.below hb3
    clear hb3 HM2
    have hpq := HM3.out.pq
    have hqp := HM3.out.pq.symm
    have o0 := HM3.out.op.c0
    have o1 := HM3.out.op.c1
    have o2 := HM3.out.op.c2
    have o3 := HM3.out.op.c3
    have b0 := HM3.out.rd.c0
    have b1 := HM3.out.rd.c1
    have oz1 := HM3.out.op.fz 1
    have oz2 := HM3.out.op.fz 2
    have oz3 := HM3.out.op.fz 3
    cases f' with
    | true =>
      have HZ : Hid (∀ o, ¬ OpIs s o) := fun o ho => by cases ((HK.out.1.loop HK.out.2 ho).1)
      go_wp2_with (go_at_call 47; refine (giveUp_any _).mono ?_; rintro e w' ⟨rfl, rfl⟩)
      exact ⟨rfl, .inr ⟨rfl, HZ.out⟩, HM3.out.res.bel⟩
    | false =>
      go_wp2_with fail
      refine (implOpOk_any k' 0 0 ⟨#[]⟩ _ (Nat.zero_le _)).mono ?_
      rintro e w9 ⟨rfl, hb9⟩
      have HM9 : Hid (MOn w p q w9 _ false k' 0 0 ⟨#[]⟩) := HM3.out.below hb9
      clear hb9 HM3
      clear hpq hqp o0 o1 o2 o3 b0 b1 oz1 oz2 oz3
      cases hop : opB k' 0 0 ⟨#[]⟩ with
      | true =>
        have HOP : Hid (opB k' 0 0 ⟨#[]⟩ = true) := hop
        clear hop
        have hrq := HM9.out.rq
        have o0 := HM9.out.op.c0
        have o1 := HM9.out.op.c1
        have o2 := HM9.out.op.c2
        have o3 := HM9.out.op.c3
        have r0 := HM9.out.res.c0
        have r1 := HM9.out.res.c1
        have r2 := HM9.out.res.c2
        have r3 := HM9.out.res.c3
        have y0 := HM9.out.res.fz 0
        have y1 := HM9.out.res.fz 1
        have y2 := HM9.out.res.fz 2
        have y3 := HM9.out.res.fz 3
        go_wp2
        refine bodyPost_ret (opResults Tryz.results48 (by rfl) HM9.out.res.all) rfl ?_
        exact ⟨.inl ⟨_, HK.out.1.loop_is HK.out.2 HOP.out, rfl⟩, HM9.out.res.all.bel⟩
      | false =>
        have HZ : Hid (∀ o, ¬ OpIs s o) := not_right (fun o ho => (HK.out.1.loop HK.out.2 ho).2) hop
        clear hop
        go_wp2_with (go_at_call 47; refine (giveUp_any _).mono ?_; rintro e w' ⟨rfl, rfl⟩)
        exact ⟨rfl, .inr ⟨rfl, HZ.out⟩, HM9.out.res.bel⟩
  · exact absurd rfl (hno k HK.out.1.rng)

theorem mustOp_none (s : ByteArray) (w : World) (hs : s.size ≤ 1048576) (he : EnvW w) (a b : ByteArray) (f : Bool) (hc : CutIs s 32 a b f) (hk : ∀ k : Int, 1 ≤ k ∧ k ≤ 17 → nameB k ≠ a) :
    Calls Tryz.prog 48 #[.string s] w fun e w' => OpEnds s e ∧ Below w.heap.size w w' := by
  have HK : Hid (CutIs s 32 a b f ∧ ∀ k : Int, 1 ≤ k ∧ k ≤ 17 → nameB k ≠ a) := ⟨hc, hk⟩
  have HZ : Hid (∀ o, ¬ OpIs s o) := fun o ho => by
    obtain ⟨h1, h2, _⟩ := ho.one hc
    exact hk _ h2 h1.symm
  have HR0 : Hid (OpOn w w.heap.size ((w.alloc (.cells #[.int .i64 0, .int .i64 0, .int .i64 0, .string ⟨#[]⟩] 37)).alloc (.cells #[.string s, .bool true] 96)) 0 0 0 ⟨#[]⟩ ∧ RdOn w (w.heap.size + 1) ((w.alloc (.cells #[.int .i64 0, .int .i64 0, .int .i64 0, .string ⟨#[]⟩] 37)).alloc (.cells #[.string s, .bool true] 96)) s true) := by
    have hb : Below w.heap.size w ((w.alloc (.cells #[.int .i64 0, .int .i64 0, .int .i64 0, .string ⟨#[]⟩] 37)).alloc (.cells #[.string s, .bool true] 96)) := ((Below.refl _ _).alloc (Nat.le_refl _) _).alloc (by simp) _
    exact ⟨⟨(heap_alloc_old _ _ (by simp)).trans (heap_alloc_new _ _), hb, Nat.le_refl _⟩, ⟨by simpa using heap_alloc_new (w.alloc (.cells #[.int .i64 0, .int .i64 0, .int .i64 0, .string ⟨#[]⟩] 37)) (.cells #[.string s, .bool true] 96), hb, he, by omega, hs⟩⟩
  have HP : Hid (w.heap.size ≠ w.heap.size + 1) := by show _ ≠ _; omega
  clear hc hk he
  go_enter Tryz.func48, Tryz.ntmps48
  go_wp2_with fail
  generalize (w.alloc (.cells #[.int .i64 0, .int .i64 0, .int .i64 0, .string ⟨#[]⟩] 37)).alloc (.cells #[.string s, .bool true] 96) = W0 at *
  generalize w.heap.size + 1 = p at *
  refine (word_yes HR0.out.2).mono ?_
  rintro e w1 ⟨a', b', f', hc', rfl, hrd, hbt⟩
  obtain ⟨rfl, rfl, rfl⟩ := cut_same hc' HK.out.1
  have HR1 : Hid (OpOn w w.heap.size w1 0 0 0 ⟨#[]⟩ ∧ RdOn w p w1 b' f') := ⟨HR0.out.1.bt hbt hrd.bel HP.out, hrd⟩
  clear hc' hrd hbt HR0
  go_wp2_with fail
  refine (kind_any a' w1 HR1.out.2.now.words).mono ?_
  rintro e w2 ⟨he, rfl⟩
  rcases he with ⟨k', hk', hn', rfl⟩ | ⟨rfl, hno⟩
  · exact absurd hn' (HK.out.2 k' hk')
  · go_wp2
    exact ⟨rfl, .inr ⟨rfl, HZ.out⟩, HR1.out.1.bel⟩

theorem mustReadOp_any (s : ByteArray) (w : World) (hs : s.size ≤ 1048576) (he : EnvW w) :
    Calls Tryz.prog 48 #[.string s] w fun e w' => OpEnds s e ∧ Below w.heap.size w w' := by
  have hc := libCut_is s 32
  generalize (⟨(Lib.cut s.data.toList [32]).1.toArray⟩ : ByteArray) = a at *
  generalize (⟨(Lib.cut s.data.toList [32]).2.1.toArray⟩ : ByteArray) = b at *
  generalize (Lib.cut s.data.toList [32]).2.2 = f at *
  by_cases hk : ∃ k : Int, (1 ≤ k ∧ k ≤ 17) ∧ nameB k = a
  · obtain ⟨k, hr, rfl⟩ := hk
    have hf : First s k b f := ⟨hc, hr⟩
    by_cases h1 : isNum k
    · exact mustOp_num s w hs he b f k hf h1
    by_cases h2 : isWait k
    · exact mustOp_wait s w hs he b f k hf h2
    by_cases h3 : isText k
    · exact mustOp_text s w hs he b f k hf h3
    by_cases h4 : k = 8
    · exact mustOp_send s w hs he b f k hf h4
    exact mustOp_loop s w hs he b f k hf (by unfold isNum at h1; unfold isWait at h2; unfold isText at h3; omega)
  · exact mustOp_none s w hs he a b f hc (fun k h1 h2 => hk ⟨k, h1, h2⟩)

end Go.Proofs.YtlaeilcipibelaaGreatDoor
