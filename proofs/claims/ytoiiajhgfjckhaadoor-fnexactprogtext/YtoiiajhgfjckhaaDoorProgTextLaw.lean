/- The exact law of ProgText, called at any program: true, and nothing that was there is changed. -/
import Derived.Test.YtoiiajhgfjckhaaDoorProgTextI
import Derived.Test.YtoiiajhgfjckhaaDoorProgSz
namespace Go.Proofs.YtoiiajhgfjckhaaDoor
open Go.RowKit

set_option maxHeartbeats 1000000 in
theorem progTextLaw_any (a : Option Addr) (len cap : Nat) (K N M : Nat → Int) (S : Nat → ByteArray) (w : World) (hl : len ≤ maxLen) (hs : SrcO w a len (opV K N M S)) (hS : ∀ i, i < len → (S i).size ≤ maxLen) (hp : Pow w) (hw : NamesAt w 0) :
    Calls Tryd.prog 6 #[.slice a len cap] w fun e w' => e = .returned (.bool true) ∧ Below w.heap.size w w' := by
  have HSR : Hid (SrcO w a len (opV K N M S)) := hs
  have HP : Hid (∀ X, Below w.heap.size w X → Pow X ∧ NamesAt X 0) := fun X hX => ⟨hp.below hX (Nat.le_refl _), hw.below hX⟩
  clear hs hp hw
  go_enter Tryd.func6, Tryd.ntmps6
  go_wp2_with fail
  refine (szOpS_any a len cap K N M S w hl HSR.out hS).mono ?_
  rintro e w1 ⟨r, rfl, r0, r1, hr, hb1⟩
  have HB1 : Hid (Below w.heap.size w w1) := hb1
  have HS1 : Hid (SrcO w1 a len (opV K N M S)) := HSR.out.below hb1
  clear hb1 hS HSR
  by_cases hneg : r < 0
  · go_wp2
    go_ret
    exact ⟨rfl, HB1.out⟩
  obtain ⟨hlen, hsz⟩ := hr (by omega)
  have HSZ : Hid (∀ i, i < len → (S i).size ≤ 1048576) := hsz
  clear hsz hr
  go_wp2_with fail
  refine (toOpS_any a len cap K N M S w1 hlen HS1.out).mono ?_
  rintro e w2 ⟨rfl, hr2, hb2⟩
  have HB2 : Hid (Below w.heap.size w w2) := HB1.out.trans (hb2.mono HB1.out.size)
  have HS2 : Hid (SrcO w2 a len (opV K N M S)) := HS1.out.below hb2
  have HR2 : Hid (w2.rowIs w1.heap.size 85 (len * 4) (opV K N M S)) := hr2
  clear hb2 hr2 HB1 HS1
  go_wp2_with fail
  refine (specProgText_any w1.heap.size len len K N M S w2 hlen HSZ.out (rowIs_ops HR2.out)).mono ?_
  rintro e w3 ⟨rfl, hb3⟩
  obtain ⟨tx, htx⟩ : ∃ tx, progText len K N M S = tx := ⟨_, rfl⟩
  rw [htx]
  have HX : Hid (progText len K N M S = tx) := htx
  have hne : (tx.toList == tx.toList) = true := by simp
  clear htx
  have HB3 : Hid (Below w.heap.size w w3) := HB2.out.trans (hb3.mono HB2.out.size)
  have HS3 : Hid (SrcO w3 a len (opV K N M S)) := HS2.out.below hb3
  clear hb3 HB2 HS2 HR2
  go_wp2_with fail
  refine (toOpS_any a len cap K N M S w3 hlen HS3.out).mono ?_
  rintro e w4 ⟨rfl, hr4, hb4⟩
  have HB4 : Hid (Below w.heap.size w w4) := HB3.out.trans (hb4.mono HB3.out.size)
  have HS4 : Hid (SrcO w4 a len (opV K N M S)) := HS3.out.below hb4
  have HR4 : Hid (w4.rowIs w3.heap.size 85 (len * 4) (opV K N M S)) := hr4
  clear hb4 hr4 HB3 HS3
  go_wp2_with fail
  refine (implProgText_any w3.heap.size len len K N M S w4 hlen HSZ.out (rowIs_ops HR4.out) (HP.out w4 HB4.out).1 (HP.out w4 HB4.out).2).mono ?_
  rintro e w5 ⟨rfl, hb5⟩
  rw [HX.out]
  have HB5 : Hid (Below w.heap.size w w5) := HB4.out.trans (hb5.mono HB4.out.size)
  have HS5 : Hid (SrcO w5 a len (opV K N M S)) := HS4.out.below hb5
  have HR5 : Hid (w5.rowIs w3.heap.size 85 (len * 4) (opV K N M S)) := rowIs_below HR4.out hb5
  clear hb5 HB4 HS4 HR4
  go_wp2_with fail
  refine (toOpS_any a len cap K N M S w5 hlen HS5.out).mono ?_
  rintro e w6 ⟨rfl, hr6, hb6⟩
  have HB6 : Hid (Below w.heap.size w w6) := HB5.out.trans (hb6.mono HB5.out.size)
  have HR6 : Hid (w6.rowIs w5.heap.size 85 (len * 4) (opV K N M S)) := hr6
  have HQ6 : Hid (w6.rowIs w3.heap.size 85 (len * 4) (opV K N M S)) := rowIs_below HR5.out hb6
  clear hb6 hr6 HB5 HS5 HR5
  go_wp2_with fail
  refine (eqOpS_any w3.heap.size w5.heap.size len K N M S w6 hlen HQ6.out HR6.out).mono ?_
  rintro e w7 ⟨rfl, hb7⟩
  have HB7 : Hid (Below w.heap.size w w7) := HB6.out.trans (hb7.mono HB6.out.size)
  clear hb7
  go_wp2
  go_ret
  exact ⟨rfl, HB7.out⟩

end Go.Proofs.YtoiiajhgfjckhaaDoor
