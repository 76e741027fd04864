/- What the proof leans on, part 0: Base, Tame, PartLay. -/
import Derived.Test.YtkbcplnlehdjfaaGreatProg
import Derived.WalkKit
import Derived.Handy
import Derived.Deep.OwnRows
import Derived.OrdersHeld
import Derived.Deep.RegionWith
import Derived.Shelf.SlIterI.Nil
import Derived.Shelf.SortM.Plain
import Derived.Shelf.SortM.SortNone
import Derived.Ground.GgzProg
import Derived.Ground.SlgmProg
set_option maxRecDepth 100000
set_option maxHeartbeats 8000000

namespace Go.Proofs.YtkbcplnlehdjfaaGreat
open Go.RowKit
def cv (n lo hi:Int):Bool:=decide (lo≤n) && decide (n≤hi)
theorem ez {n lo hi:Int} (h1:lo≤n) (h2:n≤hi):cv n lo hi=true:=by simp [cv,h1,h2]
theorem l7 {n lo hi:Int} (h:n < lo):cv n lo hi=false:=by simp [cv]; omega
theorem kH {n lo hi:Int} (h:hi < n):cv n lo hi=false:=by simp [cv]; omega
theorem al {a b:Bool} (h:a=b):Ending.returned (.bool a)= .returned (.bool b):=by rw [h]
theorem ci {k:IntKind} {a b:Int} (h:a=b):Ending.returned (.int k a)= .returned (.int k b):=by rw [h]
def lQ (w:World) (g len:Nat) (Z:Nat→Int):Prop:=g < w.heap.size∧ ∀ j,j < len * 3→w.cell? ⟨g,j,none⟩=some (.int .i64 (Z j))
theorem lQ.lt {w:World} {g len:Nat} {Z:Nat→Int} (h:lQ w g len Z):g < w.heap.size:=h.1
theorem lQ.cell {w:World} {g len:Nat} {Z:Nat→Int} (h:lQ w g len Z) {i:Nat} (hi:i < len * 3):w.cell? ⟨g,i,none⟩=some (.int .i64 (Z i)):=h.2 i hi
theorem lQ.of_block {w w':World} {g len:Nat} {Z:Nat→Int} (h:lQ w g len Z) (e:w'.heap[g]? =w.heap[g]?):lQ w' g len Z:=by
 refine ⟨?_,fun j hj=>(World.cell?_of_block (w:=w) e).trans (h.2 j hj)⟩
 have h1:=h.1
 rw [Array.getElem?_eq_getElem h1] at e
 exact (Array.getElem?_eq_some_iff.1 e).1
theorem lQ.alloc {w:World} {g len:Nat} {Z:Nat→Int} (h:lQ w g len Z) (o:Obj):lQ (w.alloc o) g len Z:=h.of_block (Below.heap_alloc w o g h.1)
theorem dx (n lo hi:Int) (w:World):
  Calls Tryz.prog 78 #[.int .i64 n,.int .i64 lo,.int .i64 hi] w fun e w'=>e= .returned (.bool (cv n lo hi))∧w'=w:=by
 by_cases h1:lo≤n
 ·by_cases h2:n≤hi
  ·go_enter Tryz.func78,Tryz.ntmps78
   go_wp2
   go_ret
   exact ⟨al (ez h1 h2).symm,rfl⟩
  ·go_enter Tryz.func78,Tryz.ntmps78
   go_wp2
   go_ret
   exact ⟨al (kH (by omega)).symm,rfl⟩
 ·go_enter Tryz.func78,Tryz.ntmps78
  go_wp2
  go_ret
  exact ⟨al (l7 (by omega)).symm,rfl⟩
end Go.Proofs.YtkbcplnlehdjfaaGreat

namespace Go.Proofs.YtkbcplnlehdjfaaGreat
open Go
section
variable {P : Program} {ops : Array Oper} {Q : Exit → Act → World → Prop} {md : Region.Mode} {S : World → Prop}
def Comes (P : Program) (S : World → Prop) (v : Value) : Result Next → Prop
  | .ok (.value u) w' => u = v ∧ S w'
  | .ok .skip w' => v = undef ∧ S w'
  | .ok (.enter f args) w' => Calls P f args w' (fun e w'' => e = .returned v ∧ S w'')
  | _ => False
def Does (P : Program) (ops : Array Oper) (S : World → Prop) (o : Oper) (v : Value) (a : Act) : Prop :=
  (Region.wanted o (yielded ops a.tmps) = true ∧ ∀ w, S w → Comes P S v ((execOp a.eval o).run P w)) ∨
  (Region.wanted o (yielded ops a.tmps) = false ∧ v = undef)
theorem Does.of_same {o : Oper} {v : Value} {a a' : Act} (hy : Does P ops S o v a) (he : execOp a'.eval o = execOp a.eval o)
    (hw : Region.wanted o (yielded ops a'.tmps) = Region.wanted o (yielded ops a.tmps)) : Does P ops S o v a' := by
  unfold Does at *
  rw [he, hw]
  exact hy
theorem Does.wpOp {i : Nat} {o : Oper} {v : Value} {a : Act} (hi : ops[i]? = some o) (hy : Does P ops S o v a)
    {K : Act → World → Prop} {w : World} (hS : S w) (h : ∀ w', S w' → K (a.put o.dst v) w') : wpOp P ops Q i K a w := by
  unfold Go.wpOp
  simp only [hi]
  rcases hy with ⟨hw, hv⟩ | ⟨hw, rfl⟩
  · simp only [hw, if_true]
    refine .inl ?_
    have hc := hv w hS
    unfold Oper.wp
    generalize (execOp a.eval o).run P w = r at *
    cases r with
    | ok n w' =>
      cases n <;> simp only [Comes, Oper.upon] at hc ⊢
      case value u =>
        obtain ⟨rfl, GI⟩ := hc
        exact h _ GI
      case skip =>
        obtain ⟨rfl, GI⟩ := hc
        exact h _ GI
      case enter f args =>
        refine Calls.mono hc fun e w'' he => ?_
        obtain ⟨rfl, GI⟩ := he
        exact h _ GI
    | halt x w' => exact hc.elim
  · simp only [hw, Bool.false_eq_true, if_false]
    exact h _ hS
theorem xB {j : Nat} {oi oj : Oper} {v : Value} (hj : ops[j]? = some oj) (hap : oi.apart ops oj = true)
    (hsi : ∀ cs b, oi.op ≠ .select cs b) (hsj : ∀ cs b, oj.op ≠ .select cs b)
    (hQ : ∀ c a w, Q (.panic c) (a.put oi.dst v) w → Q (.panic c) a w) {K : Act → World → Prop} {a : Act} {w : World}
    (hy : Does P ops S oi v a) (h : wpOp P ops Q j K (a.put oi.dst v) w) :
    wpOp P ops Q j (fun a' w' => Does P ops S oi v a' ∧ K (a'.put oi.dst v) w') a w := by
  obtain ⟨h1, h2, h3⟩ := Oper.apart_spec hap
  have keep : ∀ (a : Act), Does P ops S oi v a → ∀ u, Does P ops S oi v (a.put oj.dst u) := fun a hy u =>
    hy.of_same (execOp_put oi hsi a oj.dst u h3) (wanted_put oi a oj.dst u h3)
  have keepD : ∀ d, Does P ops S oi v { a with defers := d :: a.defers } := fun d => hy.of_same rfl rfl
  unfold wpOp at *
  simp only [hj] at *
  rw [wanted_put oj a oi.dst v h1] at h
  split
  · rename_i hw
    simp only [hw, if_true] at h
    rcases h with h | ⟨hasks, hlets⟩
    case inr => exact .inr ⟨by unfold Oper.asks at *; rw [execOp_put oj hsj a oi.dst v h1] at hasks; exact hasks, hlets⟩
    refine .inl ?_
    unfold Oper.wp at *
    rw [execOp_put oj hsj a oi.dst v h1] at h
    generalize (execOp a.eval oj).run P w = r at *
    cases r with
    | ok n w' =>
      cases n <;> simp only [Oper.upon] at h ⊢
      case value u => exact ⟨keep a hy u, by rw [← Act.put_comm a v u h2]; exact h⟩
      case skip => exact ⟨keep a hy _, by rw [← Act.put_comm a v undef h2]; exact h⟩
      case defer d =>
        refine ⟨keep _ (keepD d) _, ?_⟩
        rw [← Act.put_comm _ v undef h2, ← Act.put_defers]
        exact h
      case enter f args =>
        refine Calls.mono h fun e w'' he => ?_
        cases e with
        | returned u => exact ⟨keep a hy u, by rw [← Act.put_comm a v u h2]; exact he⟩
        | panicked c => exact hQ _ _ _ he
        | outgrown => exact he
      case row row args => exact Rows.mono h fun u w'' he => ⟨keep a hy u, by rw [← Act.put_comm a v u h2]; exact he⟩
    | halt x w' =>
      cases x <;> simp only [Oper.upon] at h ⊢
      case panic u => exact hQ _ _ _ h
  · rename_i hw
    simp only [hw] at h
    exact ⟨keep a hy _, by rw [← Act.put_comm a v undef h2]; exact h⟩
def gY (P : Program) (md : Region.Mode) (ops : Array Oper) (Q : Exit → Act → World → Prop) (S : World → Prop) : Nat → Array Bool → Act → Prop
  | 0, listed, a => Region.ready md ops listed = [] ∧ ∀ w, S w → Q .normal a w
  | fuel + 1, listed, a =>
    (Region.ready md ops listed = [] → ∀ w, S w → Q .normal a w) ∧
    ∀ i ∈ Region.ready md ops listed, ∀ w, S w → wpOp P ops Q i (fun a' w' => S w' ∧ gY P md ops Q S fuel (listed.setIfInBounds i true) a') a w
theorem pK : ∀ (fuel : Nat) (listed : Array Bool) (a : Act) (w : World), S w → gY P md ops Q S fuel listed a → wpAny P md ops Q fuel listed a w
  | 0, _, _, w, hS, h => ⟨h.1, h.2 w hS⟩
  | fuel + 1, _, _, w, hS, h => ⟨fun h0 => h.1 h0 w hS, fun i hi => wpOp_mono (fun a' w' h' => pK fuel _ a' w' h'.1 h'.2) (h.2 i hi w hS)⟩
theorem zq {i : Nat} {oi : Oper} {v : Value} (hi : ops[i]? = some oi) (hsel : ∀ (j : Nat) (o : Oper) cs b, ops[j]? = some o → o.op ≠ .select cs b)
    (hQ : ∀ c a w, Q (.panic c) (a.put oi.dst v) w → Q (.panic c) a w) :
    ∀ (fuel : Nat) (listed : Array Bool) (a : Act),
      (∀ j oj, ops[j]? = some oj → j ≠ i → listed.getD j true = false → (∀ e ∈ oj.after, Region.binds md e = true → e.on ≠ i) → oi.apart ops oj = true) →
      i ∈ Region.ready md ops listed → Does P ops S oi v a →
      gY P md ops Q S fuel (listed.setIfInBounds i true) (a.put oi.dst v) → gY P md ops Q S (fuel + 1) listed a := by
  intro fuel
  induction fuel with
  | zero =>
    intro listed a _ hr hy H
    refine ⟨fun h => (by rw [h] at hr; cases hr), fun j hj w hS => ?_⟩
    by_cases hji : j = i
    · subst hji
      exact hy.wpOp hi hS fun w' GI => ⟨GI, H⟩
    · have := ready_mono hj hji
      rw [H.1] at this
      cases this
  | succ fuel ih =>
    intro listed a hfree hr hy H
    refine ⟨fun h => (by rw [h] at hr; cases hr), fun j hj w hS => ?_⟩
    by_cases hji : j = i
    · subst hji
      exact hy.wpOp hi hS fun w' GI => ⟨GI, H⟩
    · have h1 := H.2 j (ready_mono hj hji) w hS
      obtain ⟨hjun, oj, hoj, hall⟩ := mem_ready.1 hj
      have hnot : ∀ e ∈ oj.after, Region.binds md e = true → e.on ≠ i := fun e he hb heq => by
        have h1 := hall e he hb
        have h0 := (mem_ready.1 hr).1
        rw [heq] at h1
        rcases Nat.lt_or_ge i listed.size with h' | h'
        · simp [h'] at h0 h1; rw [h0] at h1; cases h1
        · simp [Array.getElem?_eq_none h'] at h1
      have h2 := xB hoj (hfree j oj hoj hji hjun hnot) (fun cs b => hsel i oi cs b hi) (fun cs b => hsel j oj cs b hoj) hQ hy h1
      have hfree' : ∀ k ok, ops[k]? = some ok → k ≠ i → (listed.setIfInBounds j true).getD k true = false →
          (∀ e ∈ ok.after, Region.binds md e = true → e.on ≠ i) → oi.apart ops ok = true := fun k ok hk hki hun hno => by
        refine hfree k ok hk hki ?_ hno
        by_cases hjk : j = k
        · subst hjk; exact hjun
        · rw [getD_set_ne true hjk] at hun; exact hun
      refine wpOp_mono (fun a' w' h3 => ⟨h3.2.1, ih (listed.setIfInBounds j true) a' hfree' (ready_mono hr (Ne.symm hji)) h3.1 ?_⟩) h2
      rw [Array.setIfInBounds_comm _ _ hji]
      exact h3.2.2
theorem Er {i : Nat} {oi : Oper} {v : Value} {fuel : Nat} {listed : Array Bool} {a : Act} (hi : ops[i]? = some oi)
    (hs : Region.noSelect ops = true) (hf : Region.free md ops listed i = true) (hr : (Region.ready md ops listed).contains i = true)
    (hQ : ∀ c a w, Q (.panic c) (a.put oi.dst v) w → Q (.panic c) a w) (hy : Does P ops S oi v a)
    (h : gY P md ops Q S fuel (listed.setIfInBounds i true) (a.put oi.dst v)) : gY P md ops Q S (fuel + 1) listed a :=
  zq hi (Region.noSelect_spec hs) hQ fuel listed a (Region.free_spec hi hf) (by simpa using hr) hy h
theorem Iy {i : Nat} (d : Option Tmp) {oi : Oper} {v : Value} {fuel : Nat} {listed : Array Bool} {a : Act} (hi : ops[i]? = some oi) (hd : oi.dst = d)
    (hs : Region.noSelect ops = true) (hf : Region.free md ops listed i = true) (hr : (Region.ready md ops listed).contains i = true)
    (hQ : ∀ c a w, Q (.panic c) (a.put d v) w → Q (.panic c) a w) (hy : Does P ops S oi v a)
    (h : gY P md ops Q S fuel (listed.setIfInBounds i true) (a.put d v)) : gY P md ops Q S (fuel + 1) listed a := by
  subst hd
  exact Er hi hs hf hr hQ hy h
def Jt (md : Region.Mode) (ops : Array Oper) (listed : Array Bool) (i : Nat) (oi : Oper) (d : Option Tmp) : Bool := decide (oi.dst = d) && Region.noSelect ops && Region.free md ops listed i && (Region.ready md ops listed).contains i
theorem tm (i : Nat) (d : Option Tmp) {oi : Oper} {v : Value} {fuel : Nat} {listed : Array Bool} {a : Act} (hi : ops[i]? = some oi) (hc : Jt md ops listed i oi d = true)
    (hQ : ∀ c a w, Q (.panic c) (a.put d v) w → Q (.panic c) a w) (hy : Does P ops S oi v a)
    (h : gY P md ops Q S fuel (listed.setIfInBounds i true) (a.put d v)) : gY P md ops Q S (fuel + 1) listed a := by
  simp only [Jt, Bool.and_eq_true, decide_eq_true_eq] at hc
  exact Iy d hi hc.1.1.1 hc.1.1.2 hc.1.2 hc.2 hQ hy h
theorem pt (a : Act) (d : Tmp) (v : Value) : a.put (some d) v = { a with tmps := a.tmps.setIfInBounds d v } := rfl
theorem sb {α : Type} {l : List α} {i : Nat} {x : α} : l.toArray.setIfInBounds i x = (l.set i x).toArray := by simp
theorem s0 {α : Type} {l : List α} {x y : α} : (x :: l).set 0 y = y :: l := rfl
theorem s1 {α : Type} {l : List α} {x y : α} {n : Nat} : (x :: l).set (n + 1) y = x :: l.set n y := rfl
theorem bk {listed : Array Bool} {a : Act} (hr : Region.ready md ops listed = []) (h : ∀ w, S w → Q .normal a w) : ∀ fuel, gY P md ops Q S fuel listed a
  | 0 => ⟨hr, h⟩
  | _ + 1 => ⟨fun _ => h, by rw [hr]; simp⟩
theorem aT {id : Nat} {a : Act} {w : World} (S : World → Prop) (hm : P.follows .mixedOrders = true) (hS : S w.drew)
    (h : gY P .any ops Q S ops.size (Array.replicate ops.size false) a) : (Code.region id ops true).wp P Q a w :=
  wp_region_any hm (pK _ _ _ _ hS h)
/-! ### A region whose last operation may turn what the others keep -/
def qf (md : Region.Mode) (ops : Array Oper) (listed : Array Bool) : Prop := ∀ (j : Nat) (o : Oper), ops[j]? = some o → listed.getD j false = true → ∀ e ∈ o.after, Region.binds md e = true → listed.getD e.on false = true
def tP (md : Region.Mode) (ops : Array Oper) (listed : Array Bool) : Bool :=
  (List.range ops.size).all fun j => !listed.getD j false || ((ops[j]?).map fun o => o.after.all fun e => !Region.binds md e || listed.getD e.on false).getD true
theorem yy {listed : Array Bool} (h : tP md ops listed = true) : qf md ops listed := fun j o ho hl e he hb => by
  simp only [tP, List.all_eq_true, List.mem_range] at h
  have h1 := h j (Array.getElem?_eq_some_iff.1 ho).1
  rw [hl, ho] at h1
  simp only [Bool.not_true, Bool.false_or, Option.map_some, Option.getD_some, Array.all_eq_true_iff_forall_mem, Bool.or_eq_true, Bool.not_eq_true'] at h1
  rcases h1 e he with h2 | h2
  · rw [hb] at h2; cases h2
  · exact h2
theorem qf.set {listed : Array Bool} {j : Nat} (h : qf md ops listed) (hj : j ∈ Region.ready md ops listed) : qf md ops (listed.setIfInBounds j true) := fun k o ho hl e he hb => by
  obtain ⟨_, o', ho', hall⟩ := mem_ready.1 hj
  by_cases hjk : j = k
  · subst hjk
    rw [ho'] at ho
    cases ho
    exact getD_set_true (hall e he hb)
  · rw [getD_set_ne false hjk] at hl
    exact getD_set_true (h k o ho hl e he hb)
def preB (md : Region.Mode) (ops : Array Oper) : Nat → Nat → Nat → Bool
  | 0, x, i => x == i
  | n + 1, x, i => x == i || ((ops[x]?).map fun o => o.after.any fun e => Region.binds md e && preB md ops n e.on i).getD false
theorem uS {listed : Array Bool} (hc : qf md ops listed) {i : Nat} : ∀ (n x : Nat), listed.getD x false = true → preB md ops n x i = true → listed.getD i false = true
  | 0, x, hx, h => by
    have e : x = i := by simpa [preB] using h
    rw [← e]
    exact hx
  | n + 1, x, hx, h => by
    simp only [preB, Bool.or_eq_true, beq_iff_eq] at h
    rcases h with e | h
    · rw [← e]
      exact hx
    · cases ho : ops[x]? with
      | none => rw [ho] at h; simp at h
      | some o =>
        rw [ho] at h
        simp only [Option.map_some, Option.getD_some, Array.any_eq_true'] at h
        obtain ⟨e, he, h2⟩ := h
        simp only [Bool.and_eq_true] at h2
        exact uS hc n e.on (hc x o ho hx e he h2.1) h2.2
theorem sc {listed : Array Bool} (hc : qf md ops listed) {i L n : Nat} (hp : preB md ops n L i = true) (hne : ¬ i = L) (hi : listed.getD i true = false) : L ∉ Region.ready md ops listed := fun hL => by
  obtain ⟨_, o, ho, hall⟩ := mem_ready.1 hL
  have hi' : ¬ listed.getD i false = true := fun h => by
    rcases Nat.lt_or_ge i listed.size with h' | h'
    · simp [h'] at h hi
      rw [h] at hi
      cases hi
    · simp [Array.getElem?_eq_none h'] at h
  cases n with
  | zero => exact hne (by have e : L = i := by simpa [preB] using hp
                          exact e.symm)
  | succ n =>
    simp only [preB, Bool.or_eq_true, beq_iff_eq] at hp
    rcases hp with e | h
    · exact hne e.symm
    · rw [ho] at h
      simp only [Option.map_some, Option.getD_some, Array.any_eq_true'] at h
      obtain ⟨e, he, h2⟩ := h
      simp only [Bool.and_eq_true] at h2
      exact hi' (uS hc n e.on (hall e he h2.1) h2.2)
def kW (P : Program) (md : Region.Mode) (ops : Array Oper) (Q : Exit → Act → World → Prop) (S : World → Prop) (L : Nat) : Nat → Array Bool → Act → Prop
  | 0, _, _ => False
  | fuel + 1, listed, a =>
    Region.ready md ops listed ≠ [] ∧
    ∀ i ∈ Region.ready md ops listed, ∀ w, S w →
      (i = L ∧ Region.ready md ops (listed.setIfInBounds L true) = [] ∧ wpOp P ops Q L (fun a' w' => Q .normal a' w') a w) ∨
      (i ≠ L ∧ wpOp P ops Q i (fun a' w' => S w' ∧ kW P md ops Q S L fuel (listed.setIfInBounds i true) a') a w)
theorem pS {L : Nat} : ∀ (fuel : Nat) (listed : Array Bool) (a : Act) (w : World), S w → kW P md ops Q S L fuel listed a → wpAny P md ops Q fuel listed a w
  | 0, _, _, _, _, h => h.elim
  | fuel + 1, listed, a, w, hS, h => ⟨fun h0 => absurd h0 h.1, fun i hi => by
    rcases h.2 i hi w hS with ⟨rfl, h1, h2⟩ | ⟨_, h2⟩
    · exact wpOp_mono (fun a' w' h' => wpAny_done h1 h' fuel) h2
    · exact wpOp_mono (fun a' w' h' => pS fuel _ a' w' h'.1 h'.2) h2⟩
theorem zk {L i n : Nat} {oi : Oper} {v : Value} (hi : ops[i]? = some oi) (hsel : ∀ (j : Nat) (o : Oper) cs b, ops[j]? = some o → o.op ≠ .select cs b)
    (hQ : ∀ c a w, Q (.panic c) (a.put oi.dst v) w → Q (.panic c) a w) (hp : preB md ops n L i = true) (hne : ¬ i = L) :
    ∀ (fuel : Nat) (listed : Array Bool) (a : Act), qf md ops listed →
      (∀ j oj, ops[j]? = some oj → j ≠ i → listed.getD j true = false → (∀ e ∈ oj.after, Region.binds md e = true → e.on ≠ i) → oi.apart ops oj = true) →
      i ∈ Region.ready md ops listed → Does P ops S oi v a →
      kW P md ops Q S L fuel (listed.setIfInBounds i true) (a.put oi.dst v) → kW P md ops Q S L (fuel + 1) listed a := by
  intro fuel
  induction fuel with
  | zero => intro listed a _ _ _ _ H; exact H.elim
  | succ fuel ih =>
    intro listed a hcl hfree hr hy H
    refine ⟨fun h => (by rw [h] at hr; cases hr), fun j hj w hS => ?_⟩
    have hjL : ¬ j = L := fun e => by
      subst e
      exact sc hcl hp hne (mem_ready.1 hr).1 hj
    refine .inr ⟨hjL, ?_⟩
    by_cases hji : j = i
    · subst hji
      exact hy.wpOp hi hS fun w' GI => ⟨GI, H⟩
    · have h1 := (H.2 j (ready_mono hj hji) w hS).resolve_left (fun h => hjL h.1)
      obtain ⟨hjun, oj, hoj, hall⟩ := mem_ready.1 hj
      have hnot : ∀ e ∈ oj.after, Region.binds md e = true → e.on ≠ i := fun e he hb heq => by
        have h1 := hall e he hb
        have h0 := (mem_ready.1 hr).1
        rw [heq] at h1
        rcases Nat.lt_or_ge i listed.size with h' | h'
        · simp [h'] at h0 h1; rw [h0] at h1; cases h1
        · simp [Array.getElem?_eq_none h'] at h1
      have h2 := xB hoj (hfree j oj hoj hji hjun hnot) (fun cs b => hsel i oi cs b hi) (fun cs b => hsel j oj cs b hoj) hQ hy h1.2
      have hfree' : ∀ k ok, ops[k]? = some ok → k ≠ i → (listed.setIfInBounds j true).getD k true = false →
          (∀ e ∈ ok.after, Region.binds md e = true → e.on ≠ i) → oi.apart ops ok = true := fun k ok hk hki hun hno => by
        refine hfree k ok hk hki ?_ hno
        by_cases hjk : j = k
        · subst hjk; exact hjun
        · rw [getD_set_ne true hjk] at hun; exact hun
      refine wpOp_mono (fun a' w' h3 => ⟨h3.2.1, ih (listed.setIfInBounds j true) a' (hcl.set hj) hfree' (ready_mono hr (Ne.symm hji)) h3.1 ?_⟩) h2
      rw [Array.setIfInBounds_comm _ _ hji]
      exact h3.2.2
theorem I4 {L i : Nat} (n : Nat) (d : Option Tmp) {oi : Oper} {v : Value} {fuel : Nat} {listed : Array Bool} {a : Act} (hi : ops[i]? = some oi) (hd : oi.dst = d)
    (hs : Region.noSelect ops = true) (hf : Region.free md ops listed i = true) (hr : (Region.ready md ops listed).contains i = true) (hp : (preB md ops n L i && (i != L) && tP md ops listed) = true)
    (hQ : ∀ c a w, Q (.panic c) (a.put d v) w → Q (.panic c) a w) (hy : Does P ops S oi v a)
    (h : kW P md ops Q S L fuel (listed.setIfInBounds i true) (a.put d v)) : kW P md ops Q S L (fuel + 1) listed a := by
  subst hd
  simp only [Bool.and_eq_true, bne_iff_ne, ne_eq] at hp
  exact zk hi (Region.noSelect_spec hs) hQ hp.1.1 hp.1.2 fuel listed a (yy hp.2) (Region.free_spec hi hf) (by simpa using hr) hy h
def lsB (md : Region.Mode) (ops : Array Oper) (listed : Array Bool) (i L n : Nat) (oi : Oper) (d : Option Tmp) : Bool := Jt md ops listed i oi d && (preB md ops n L i && (i != L) && tP md ops listed)
theorem ls {L : Nat} (i n : Nat) (d : Option Tmp) {oi : Oper} {v : Value} {fuel : Nat} {listed : Array Bool} {a : Act} (hi : ops[i]? = some oi) (hc : lsB md ops listed i L n oi d = true)
    (hQ : ∀ c a w, Q (.panic c) (a.put d v) w → Q (.panic c) a w) (hy : Does P ops S oi v a)
    (h : kW P md ops Q S L fuel (listed.setIfInBounds i true) (a.put d v)) : kW P md ops Q S L (fuel + 1) listed a := by
  simp only [lsB, Jt, Bool.and_eq_true, decide_eq_true_eq] at hc
  exact I4 n d hi hc.1.1.1.1 hc.1.1.1.2 hc.1.1.2 hc.1.2 (by simp only [Bool.and_eq_true]; exact hc.2) hQ hy h
theorem fM {L : Nat} {oL : Oper} {fuel : Nat} {listed : Array Bool} {a : Act} (hi : ops[L]? = some oL) (hr : Region.ready md ops listed = [L]) (hr' : Region.ready md ops (listed.setIfInBounds L true) = [])
    (hw : Region.wanted oL (yielded ops a.tmps) = true) (h : ∀ w, S w → oL.wp P a w (fun a' w' => Q .normal a' w') Q) : kW P md ops Q S L (fuel + 1) listed a := by
  refine ⟨by rw [hr]; simp, fun i hi' w hS => ?_⟩
  rw [hr] at hi'
  have e : i = L := by simpa using hi'
  refine .inl ⟨e, hr', ?_⟩
  unfold wpOp
  simp only [hi, hw, if_true]
  exact .inl (h w hS)
theorem eH {id : Nat} {a : Act} {w : World} (S : World → Prop) (L : Nat) (hm : P.follows .mixedOrders = true) (hS : S w.drew)
    (h : kW P .any ops Q S L ops.size (Array.replicate ops.size false) a) : (Code.region id ops true).wp P Q a w :=
  wp_region_any hm (pS _ _ _ _ hS h)
theorem mR {o : Oper} {a : Act} (h : Region.wanted o (yielded ops a.tmps) = false) : Does P ops S o undef a := .inr ⟨h, rfl⟩
theorem bV {o : Oper} {v : Value} {a : Act} (hw : Region.wanted o (yielded ops a.tmps) = true) (h : ∀ w, S w → (execOp a.eval o).run P w = .ok (.value v) w) : Does P ops S o v a :=
  .inl ⟨hw, fun w hS => by rw [h w hS]; exact ⟨rfl, hS⟩⟩
theorem ja {o : Oper} {v : Value} {a : Act} {f : FuncId} {args : Array Value} (hw : Region.wanted o (yielded ops a.tmps) = true) (h : ∀ w, S w → (execOp a.eval o).run P w = .ok (.enter f args) w)
    (hc : ∀ w, S w → Calls P f args w (fun e w' => e = .returned v ∧ S w')) : Does P ops S o v a :=
  .inl ⟨hw, fun w hS => by rw [h w hS]; exact hc w hS⟩
end
end Go.Proofs.YtkbcplnlehdjfaaGreat

namespace Go.Proofs
open Go.Shelf
def Tryz.keysProc_ren:Go.Shelf.Ren:=⟨fun | 7=>221 | 10=>232 | n=>n,fun | 23=>108 | 26=>2 | 3=>102 | 28=>275 | 0=>0 | 27=>274 | 33=>153 | 4=>4 | n=>n,fun | n=>n⟩
theorem Tryz.keysProc:Go.Proofs.SlLaysZI.n7 Tryz.prog Tryz.keysProc_ren:= {
 mixed:=by kernel_rfl
 f7:=⟨Tryz.f221.name,by decide,Tryz.func221.trans (congrArg some (by kernel_rfl))⟩
 f10:=⟨Tryz.f232.name,by decide,Tryz.func232.trans (congrArg some (by kernel_rfl))⟩
 t0:=Tryz.underlying0
 a0:=Tryz.isAgg0
 z0:=Tryz.sizeOf0
 v0:=Tryz.zeroValue0
 t4:=Tryz.underlying4
 a4:=Tryz.isAgg4
 z4:=Tryz.sizeOf4
 v4:=Tryz.zeroValue4
 t23:=Tryz.underlying108
 a23:=Tryz.isAgg108
 z23:=Tryz.sizeOf108
 v23:=Tryz.zeroValue108
 t26:=Tryz.underlying2
 a26:=Tryz.isAgg2
 z26:=Tryz.sizeOf2
 v26:=Tryz.zeroValue2
 t27:=Tryz.underlying274
 a27:=Tryz.isAgg274
 z27:=Tryz.sizeOf274
 v27:=Tryz.zeroValue274
 t28:=Tryz.underlying275
 a28:=Tryz.isAgg275
 z28:=Tryz.sizeOf275
 v28:=Tryz.zeroValue275
 t33:=Tryz.underlying153
 a33:=Tryz.isAgg153
 z33:=Tryz.sizeOf153
 v33:=Tryz.zeroValue153 }
def Tryz.sortedA_ren:Go.Shelf.Ren:=⟨fun | 6=>220 | 8=>230 | 9=>231 | 11=>244 | 13=>246 | 12=>245 | 23=>258 | 24=>259 | 14=>249 | 15=>250 | 16=>251 | 17=>252 | 18=>253 | 19=>254 | 20=>255 | 21=>256 | 22=>257 | 25=>260 | 26=>261 | 27=>262 | 28=>263 | 29=>264 | 30=>265 | 31=>266 | n=>n,fun | 26=>2 | 28=>275 | 24=>189 | 0=>0 | 3=>3 | 37=>251 | 48=>301 | 50=>249 | 4=>4 | 40=>293 | 39=>292 | 45=>298 | 5=>5 | 9=>9 | 51=>303 | 55=>306 | 57=>308 | 58=>309 | 33=>153 | n=>n,fun | n=>n⟩
theorem Tryz.sortedA:Go.Proofs.SlLaysZI.n6 Tryz.prog Tryz.sortedA_ren:= {
 mixed:=by kernel_rfl
 f6:=⟨Tryz.f220.name,by decide,Tryz.func220.trans (congrArg some (by kernel_rfl))⟩
 f8:=⟨Tryz.f230.name,by decide,Tryz.func230.trans (congrArg some (by kernel_rfl))⟩
 f11:=⟨Tryz.f244.name,by decide,Tryz.func244.trans (congrArg some (by kernel_rfl))⟩
 t0:=Tryz.underlying0
 a0:=Tryz.isAgg0
 z0:=Tryz.sizeOf0
 v0:=Tryz.zeroValue0
 t24:=Tryz.underlying189
 a24:=Tryz.isAgg189
 z24:=Tryz.sizeOf189
 v24:=Tryz.zeroValue189
 t26:=Tryz.underlying2
 a26:=Tryz.isAgg2
 z26:=Tryz.sizeOf2
 v26:=Tryz.zeroValue2
 t28:=Tryz.underlying275
 a28:=Tryz.isAgg275
 z28:=Tryz.sizeOf275
 v28:=Tryz.zeroValue275
 i26:=by kernel_rfl }
def Tryz.sortA_ren:Go.Shelf.Ren:=⟨fun | 5=>231 | 8=>246 | 7=>245 | 19=>258 | 20=>259 | 10=>249 | 11=>250 | 12=>251 | 13=>252 | 14=>253 | 15=>254 | 16=>255 | 17=>256 | 18=>257 | 30=>260 | 31=>261 | 32=>262 | 33=>263 | 34=>264 | 35=>265 | 40=>266 | n=>n,fun | 23=>189 | 25=>2 | 3=>3 | 32=>251 | 22=>189 | 0=>0 | 44=>301 | 46=>249 | 4=>4 | 36=>293 | 35=>292 | 41=>298 | 5=>5 | 9=>9 | 53=>303 | 57=>306 | 63=>308 | 64=>309 | n=>n,fun | n=>n⟩
theorem Tryz.sortA:Go.Proofs.SlLaysM.n5 Tryz.prog Tryz.sortA_ren:= {
 mixed:=by kernel_rfl
 f5:=⟨Tryz.f231.name,by decide,Tryz.func231.trans (congrArg some (by kernel_rfl))⟩
 f7:=⟨Tryz.f245.name,by decide,Tryz.func245.trans (congrArg some (by kernel_rfl))⟩
 f8:=Tryz.func246.trans (congrArg some (by kernel_rfl))
 f10:=⟨Tryz.f249.name,by decide,Tryz.func249.trans (congrArg some (by kernel_rfl))⟩
 f11:=⟨Tryz.f250.name,by decide,Tryz.func250.trans (congrArg some (by kernel_rfl))⟩
 f12:=⟨Tryz.f251.name,by decide,Tryz.func251.trans (congrArg some (by kernel_rfl))⟩
 f13:=⟨Tryz.f252.name,by decide,Tryz.func252.trans (congrArg some (by kernel_rfl))⟩
 f14:=⟨Tryz.f253.name,by decide,Tryz.func253.trans (congrArg some (by kernel_rfl))⟩
 f15:=⟨Tryz.f254.name,by decide,Tryz.func254.trans (congrArg some (by kernel_rfl))⟩
 f16:=⟨Tryz.f255.name,by decide,Tryz.func255.trans (congrArg some (by kernel_rfl))⟩
 f17:=⟨Tryz.f256.name,by decide,Tryz.func256.trans (congrArg some (by kernel_rfl))⟩
 f18:=⟨Tryz.f257.name,by decide,Tryz.func257.trans (congrArg some (by kernel_rfl))⟩
 f19:=Tryz.func258.trans (congrArg some (by kernel_rfl))
 f20:=Tryz.func259.trans (congrArg some (by kernel_rfl))
 f30:=⟨Tryz.f260.name,by decide,Tryz.func260.trans (congrArg some (by kernel_rfl))⟩
 f31:=Tryz.func261.trans (congrArg some (by kernel_rfl))
 f32:=Tryz.func262.trans (congrArg some (by kernel_rfl))
 f33:=⟨Tryz.f263.name,by decide,Tryz.func263.trans (congrArg some (by kernel_rfl))⟩
 f34:=⟨Tryz.f264.name,by decide,Tryz.func264.trans (congrArg some (by kernel_rfl))⟩
 f35:=⟨Tryz.f265.name,by decide,Tryz.func265.trans (congrArg some (by kernel_rfl))⟩
 f40:=⟨Tryz.f266.name,by decide,Tryz.func266.trans (congrArg some (by kernel_rfl))⟩
 t0:=Tryz.underlying0
 a0:=Tryz.isAgg0
 z0:=Tryz.sizeOf0
 v0:=Tryz.zeroValue0
 t3:=Tryz.underlying3
 a3:=Tryz.isAgg3
 z3:=Tryz.sizeOf3
 v3:=Tryz.zeroValue3
 t4:=Tryz.underlying4
 a4:=Tryz.isAgg4
 z4:=Tryz.sizeOf4
 v4:=Tryz.zeroValue4
 t5:=Tryz.underlying5
 a5:=Tryz.isAgg5
 z5:=Tryz.sizeOf5
 v5:=Tryz.zeroValue5
 t9:=Tryz.underlying9
 a9:=Tryz.isAgg9
 z9:=Tryz.sizeOf9
 v9:=Tryz.zeroValue9
 t22:=Tryz.underlying189
 a22:=Tryz.isAgg189
 z22:=Tryz.sizeOf189
 v22:=Tryz.zeroValue189
 t23:=Tryz.underlying189
 a23:=Tryz.isAgg189
 z23:=Tryz.sizeOf189
 v23:=Tryz.zeroValue189
 t25:=Tryz.underlying2
 a25:=Tryz.isAgg2
 z25:=Tryz.sizeOf2
 v25:=Tryz.zeroValue2
 t32:=Tryz.underlying251
 a32:=Tryz.isAgg251
 z32:=Tryz.sizeOf251
 v32:=Tryz.zeroValue251
 t35:=Tryz.underlying292
 a35:=Tryz.isAgg292
 z35:=Tryz.sizeOf292
 v35:=Tryz.zeroValue292
 t36:=Tryz.underlying293
 a36:=Tryz.isAgg293
 z36:=Tryz.sizeOf293
 v36:=Tryz.zeroValue293
 t41:=Tryz.underlying298
 a41:=Tryz.isAgg298
 z41:=Tryz.sizeOf298
 v41:=Tryz.zeroValue298
 t44:=Tryz.underlying301
 a44:=Tryz.isAgg301
 z44:=Tryz.sizeOf301
 v44:=Tryz.zeroValue301
 t46:=Tryz.underlying249
 a46:=Tryz.isAgg249
 z46:=Tryz.sizeOf249
 v46:=Tryz.zeroValue249
 t53:=Tryz.underlying303
 a53:=Tryz.isAgg303
 z53:=Tryz.sizeOf303
 v53:=Tryz.zeroValue303
 t57:=Tryz.underlying306
 a57:=Tryz.isAgg306
 z57:=Tryz.sizeOf306
 v57:=Tryz.zeroValue306
 t63:=Tryz.underlying308
 a63:=Tryz.isAgg308
 z63:=Tryz.sizeOf308
 v63:=Tryz.zeroValue308
 t64:=Tryz.underlying309
 a64:=Tryz.isAgg309
 z64:=Tryz.sizeOf309
 v64:=Tryz.zeroValue309 }
end Go.Proofs
