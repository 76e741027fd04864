/- What the proof leans on, part 2: Tame, ShBase, ShelfB, PartLay, KeysB, CopyB. -/
import Derived.OrdersHeld
import Derived.Deep.RegionWith
import Derived.Deep.RegionHeld3
import Derived.Deep.DrawnRows
import Derived.Shelf.SlIterI.Nil
import Derived.Shelf.SortM.Plain
import Derived.Shelf.SortM.SortNone
import Derived.Ground.GgzProg
import Derived.Ground.SlgmProg
import Derived.Test.YtkbcplnlehdjfaaGreatProg
import Derived.Maps.AppendAt
import Derived.Deep.AppendLies
import Derived.Deep.AppendSrc
import Derived.Test.YtkbcplnlehdjfaaGreatOwnR0
import Derived.Test.YtkbcplnlehdjfaaGreatOwnR1

namespace Go.Proofs.YtkbcplnlehdjfaaGreat
open Go
section
variable {P : Program} {ops : Array Oper} {Q : Exit → Act → World → Prop} {md : Region.Mode} {S : World → Prop}
/-- What an operation comes to: that value, and the condition is kept. -/
def Comes (P : Program) (S : World → Prop) (v : Value) : Result Next → Prop
  | .ok (.value u) w' => u = v ∧ S w'
  | .ok .skip w' => v = undef ∧ S w'
  | .ok (.enter f args) w' => Calls P f args w' (fun e w'' => e = .returned v ∧ S w'')
  | _ => False
/-- In that state the operation leaves v in its slot, in every world that keeps the condition, and keeps it. -/
def Does (P : Program) (ops : Array Oper) (S : World → Prop) (o : Oper) (v : Value) (a : Act) : Prop :=
  (Region.wanted o (yielded ops a.tmps) = true ∧ ∀ w, S w → Comes P S v ((execOp a.eval o).run P w)) ∨
  (Region.wanted o (yielded ops a.tmps) = false ∧ v = undef)
theorem Does.of_same {o : Oper} {v : Value} {a a' : Act} (hy : Does P ops S o v a) (he : execOp a'.eval o = execOp a.eval o)
    (hw : Region.wanted o (yielded ops a'.tmps) = Region.wanted o (yielded ops a.tmps)) : Does P ops S o v a' := by
  unfold Does at *
  rw [he, hw]
  exact hy
theorem Does.wpOp {i : Nat} {o : Oper} {v : Value} {a : Act} (hi : ops[i]? = some o) (hy : Does P ops S o v a)
    {K : Act → World → Prop} {w : World} (hS : S w) (h : ∀ w', S w' → K (a.put o.dst v) w') : wpOp P ops Q i K a w := by
  unfold Go.wpOp
  simp only [hi]
  rcases hy with ⟨hw, hv⟩ | ⟨hw, rfl⟩
  · simp only [hw, if_true]
    refine .inl ?_
    have hc := hv w hS
    unfold Oper.wp
    generalize (execOp a.eval o).run P w = r at *
    cases r with
    | ok n w' =>
      cases n <;> simp only [Comes, Oper.upon] at hc ⊢
      case value u =>
        obtain ⟨rfl, hS'⟩ := hc
        exact h _ hS'
      case skip =>
        obtain ⟨rfl, hS'⟩ := hc
        exact h _ hS'
      case enter f args =>
        refine Calls.mono hc fun e w'' he => ?_
        obtain ⟨rfl, hS'⟩ := he
        exact h _ hS'
    | halt x w' => exact hc.elim
  · simp only [hw, Bool.false_eq_true, if_false]
    exact h _ hS
theorem wpOp_putD {j : Nat} {oi oj : Oper} {v : Value} (hj : ops[j]? = some oj) (hap : oi.apart ops oj = true)
    (hsi : ∀ cs b, oi.op ≠ .select cs b) (hsj : ∀ cs b, oj.op ≠ .select cs b)
    (hQ : ∀ c a w, Q (.panic c) (a.put oi.dst v) w → Q (.panic c) a w) {K : Act → World → Prop} {a : Act} {w : World}
    (hy : Does P ops S oi v a) (h : wpOp P ops Q j K (a.put oi.dst v) w) :
    wpOp P ops Q j (fun a' w' => Does P ops S oi v a' ∧ K (a'.put oi.dst v) w') a w := by
  obtain ⟨h1, h2, h3⟩ := Oper.apart_spec hap
  have keep : ∀ (a : Act), Does P ops S oi v a → ∀ u, Does P ops S oi v (a.put oj.dst u) := fun a hy u =>
    hy.of_same (execOp_put oi hsi a oj.dst u h3) (wanted_put oi a oj.dst u h3)
  have keepD : ∀ d, Does P ops S oi v { a with defers := d :: a.defers } := fun d => hy.of_same rfl rfl
  unfold wpOp at *
  simp only [hj] at *
  rw [wanted_put oj a oi.dst v h1] at h
  split
  · rename_i hw
    simp only [hw, if_true] at h
    rcases h with h | ⟨hasks, hlets⟩
    case inr => exact .inr ⟨by unfold Oper.asks at *; rw [execOp_put oj hsj a oi.dst v h1] at hasks; exact hasks, hlets⟩
    refine .inl ?_
    unfold Oper.wp at *
    rw [execOp_put oj hsj a oi.dst v h1] at h
    generalize (execOp a.eval oj).run P w = r at *
    cases r with
    | ok n w' =>
      cases n <;> simp only [Oper.upon] at h ⊢
      case value u => exact ⟨keep a hy u, by rw [← Act.put_comm a v u h2]; exact h⟩
      case skip => exact ⟨keep a hy _, by rw [← Act.put_comm a v undef h2]; exact h⟩
      case defer d =>
        refine ⟨keep _ (keepD d) _, ?_⟩
        rw [← Act.put_comm _ v undef h2, ← Act.put_defers]
        exact h
      case enter f args =>
        refine Calls.mono h fun e w'' he => ?_
        cases e with
        | returned u => exact ⟨keep a hy u, by rw [← Act.put_comm a v u h2]; exact he⟩
        | panicked c => exact hQ _ _ _ he
        | outgrown => exact he
      case row row args => exact Rows.mono h fun u w'' he => ⟨keep a hy u, by rw [← Act.put_comm a v u h2]; exact he⟩
    | halt x w' =>
      cases x <;> simp only [Oper.upon] at h ⊢
      case panic u => exact hQ _ _ _ h
  · rename_i hw
    simp only [hw] at h
    exact ⟨keep a hy _, by rw [← Act.put_comm a v undef h2]; exact h⟩
/-- Whatever order is picked from here on, in whatever world that keeps the condition. -/
def wpAnyD (P : Program) (md : Region.Mode) (ops : Array Oper) (Q : Exit → Act → World → Prop) (S : World → Prop) : Nat → Array Bool → Act → Prop
  | 0, listed, a => Region.ready md ops listed = [] ∧ ∀ w, S w → Q .normal a w
  | fuel + 1, listed, a =>
    (Region.ready md ops listed = [] → ∀ w, S w → Q .normal a w) ∧
    ∀ i ∈ Region.ready md ops listed, ∀ w, S w → wpOp P ops Q i (fun a' w' => S w' ∧ wpAnyD P md ops Q S fuel (listed.setIfInBounds i true) a') a w
theorem wpAny_of_does : ∀ (fuel : Nat) (listed : Array Bool) (a : Act) (w : World), S w → wpAnyD P md ops Q S fuel listed a → wpAny P md ops Q fuel listed a w
  | 0, _, _, w, hS, h => ⟨h.1, h.2 w hS⟩
  | fuel + 1, _, _, w, hS, h => ⟨fun h0 => h.1 h0 w hS, fun i hi => wpOp_mono (fun a' w' h' => wpAny_of_does fuel _ a' w' h'.1 h'.2) (h.2 i hi w hS)⟩
theorem wpAnyD_first {i : Nat} {oi : Oper} {v : Value} (hi : ops[i]? = some oi) (hsel : ∀ (j : Nat) (o : Oper) cs b, ops[j]? = some o → o.op ≠ .select cs b)
    (hQ : ∀ c a w, Q (.panic c) (a.put oi.dst v) w → Q (.panic c) a w) :
    ∀ (fuel : Nat) (listed : Array Bool) (a : Act),
      (∀ j oj, ops[j]? = some oj → j ≠ i → listed.getD j true = false → (∀ e ∈ oj.after, Region.binds md e = true → e.on ≠ i) → oi.apart ops oj = true) →
      i ∈ Region.ready md ops listed → Does P ops S oi v a →
      wpAnyD P md ops Q S fuel (listed.setIfInBounds i true) (a.put oi.dst v) → wpAnyD P md ops Q S (fuel + 1) listed a := by
  intro fuel
  induction fuel with
  | zero =>
    intro listed a _ hr hy H
    refine ⟨fun h => (by rw [h] at hr; cases hr), fun j hj w hS => ?_⟩
    by_cases hji : j = i
    · subst hji
      exact hy.wpOp hi hS fun w' hS' => ⟨hS', H⟩
    · have := ready_mono hj hji
      rw [H.1] at this
      cases this
  | succ fuel ih =>
    intro listed a hfree hr hy H
    refine ⟨fun h => (by rw [h] at hr; cases hr), fun j hj w hS => ?_⟩
    by_cases hji : j = i
    · subst hji
      exact hy.wpOp hi hS fun w' hS' => ⟨hS', H⟩
    · have h1 := H.2 j (ready_mono hj hji) w hS
      obtain ⟨hjun, oj, hoj, hall⟩ := mem_ready.1 hj
      have hnot : ∀ e ∈ oj.after, Region.binds md e = true → e.on ≠ i := fun e he hb heq => by
        have h1 := hall e he hb
        have h0 := (mem_ready.1 hr).1
        rw [heq] at h1
        rcases Nat.lt_or_ge i listed.size with h' | h'
        · simp [h'] at h0 h1; rw [h0] at h1; cases h1
        · simp [Array.getElem?_eq_none h'] at h1
      have h2 := wpOp_putD hoj (hfree j oj hoj hji hjun hnot) (fun cs b => hsel i oi cs b hi) (fun cs b => hsel j oj cs b hoj) hQ hy h1
      have hfree' : ∀ k ok, ops[k]? = some ok → k ≠ i → (listed.setIfInBounds j true).getD k true = false →
          (∀ e ∈ ok.after, Region.binds md e = true → e.on ≠ i) → oi.apart ops ok = true := fun k ok hk hki hun hno => by
        refine hfree k ok hk hki ?_ hno
        by_cases hjk : j = k
        · subst hjk; exact hjun
        · rw [getD_set_ne true hjk] at hun; exact hun
      refine wpOp_mono (fun a' w' h3 => ⟨h3.2.1, ih (listed.setIfInBounds j true) a' hfree' (ready_mono hr (Ne.symm hji)) h3.1 ?_⟩) h2
      rw [Array.setIfInBounds_comm _ _ hji]
      exact h3.2.2
/-- The next operation of the text. -/
theorem tame_take {i : Nat} {oi : Oper} {v : Value} {fuel : Nat} {listed : Array Bool} {a : Act} (hi : ops[i]? = some oi)
    (hs : Region.noSelect ops = true) (hf : Region.free md ops listed i = true) (hr : (Region.ready md ops listed).contains i = true)
    (hQ : ∀ c a w, Q (.panic c) (a.put oi.dst v) w → Q (.panic c) a w) (hy : Does P ops S oi v a)
    (h : wpAnyD P md ops Q S fuel (listed.setIfInBounds i true) (a.put oi.dst v)) : wpAnyD P md ops Q S (fuel + 1) listed a :=
  wpAnyD_first hi (Region.noSelect_spec hs) hQ fuel listed a (Region.free_spec hi hf) (by simpa using hr) hy h
/-- The same, the slot named. -/
theorem tame_at {i : Nat} (d : Option Tmp) {oi : Oper} {v : Value} {fuel : Nat} {listed : Array Bool} {a : Act} (hi : ops[i]? = some oi) (hd : oi.dst = d)
    (hs : Region.noSelect ops = true) (hf : Region.free md ops listed i = true) (hr : (Region.ready md ops listed).contains i = true)
    (hQ : ∀ c a w, Q (.panic c) (a.put d v) w → Q (.panic c) a w) (hy : Does P ops S oi v a)
    (h : wpAnyD P md ops Q S fuel (listed.setIfInBounds i true) (a.put d v)) : wpAnyD P md ops Q S (fuel + 1) listed a := by
  subst hd
  exact tame_take hi hs hf hr hQ hy h
/-- The same, its checks in one. -/
def tmB (md : Region.Mode) (ops : Array Oper) (listed : Array Bool) (i : Nat) (oi : Oper) (d : Option Tmp) : Bool := decide (oi.dst = d) && Region.noSelect ops && Region.free md ops listed i && (Region.ready md ops listed).contains i
theorem tm (i : Nat) (d : Option Tmp) {oi : Oper} {v : Value} {fuel : Nat} {listed : Array Bool} {a : Act} (hi : ops[i]? = some oi) (hc : tmB md ops listed i oi d = true)
    (hQ : ∀ c a w, Q (.panic c) (a.put d v) w → Q (.panic c) a w) (hy : Does P ops S oi v a)
    (h : wpAnyD P md ops Q S fuel (listed.setIfInBounds i true) (a.put d v)) : wpAnyD P md ops Q S (fuel + 1) listed a := by
  simp only [tmB, Bool.and_eq_true, decide_eq_true_eq] at hc
  exact tame_at d hi hc.1.1.1 hc.1.1.2 hc.1.2 hc.2 hQ hy h
theorem pt (a : Act) (d : Tmp) (v : Value) : a.put (some d) v = { a with tmps := a.tmps.setIfInBounds d v } := rfl
theorem sb {α : Type} {l : List α} {i : Nat} {x : α} : l.toArray.setIfInBounds i x = (l.set i x).toArray := by simp
theorem s0 {α : Type} {l : List α} {x y : α} : (x :: l).set 0 y = y :: l := rfl
theorem s1 {α : Type} {l : List α} {x y : α} {n : Nat} : (x :: l).set (n + 1) y = x :: l.set n y := rfl
theorem tame_done {listed : Array Bool} {a : Act} (hr : Region.ready md ops listed = []) (h : ∀ w, S w → Q .normal a w) : ∀ fuel, wpAnyD P md ops Q S fuel listed a
  | 0 => ⟨hr, h⟩
  | _ + 1 => ⟨fun _ => h, by rw [hr]; simp⟩
theorem tame_region {id : Nat} {a : Act} {w : World} (S : World → Prop) (hm : P.follows .mixedOrders = true) (hS : S w.drew)
    (h : wpAnyD P .any ops Q S ops.size (Array.replicate ops.size false) a) : (Code.region id ops true).wp P Q a w :=
  wp_region_any hm (wpAny_of_does _ _ _ _ hS h)
/-! ### A region whose last operation may turn what the others keep -/
def Closed (md : Region.Mode) (ops : Array Oper) (listed : Array Bool) : Prop := ∀ (j : Nat) (o : Oper), ops[j]? = some o → listed.getD j false = true → ∀ e ∈ o.after, Region.binds md e = true → listed.getD e.on false = true
def closedB (md : Region.Mode) (ops : Array Oper) (listed : Array Bool) : Bool :=
  (List.range ops.size).all fun j => !listed.getD j false || ((ops[j]?).map fun o => o.after.all fun e => !Region.binds md e || listed.getD e.on false).getD true
theorem closedB_spec {listed : Array Bool} (h : closedB md ops listed = true) : Closed md ops listed := fun j o ho hl e he hb => by
  simp only [closedB, List.all_eq_true, List.mem_range] at h
  have h1 := h j (Array.getElem?_eq_some_iff.1 ho).1
  rw [hl, ho] at h1
  simp only [Bool.not_true, Bool.false_or, Option.map_some, Option.getD_some, Array.all_eq_true_iff_forall_mem, Bool.or_eq_true, Bool.not_eq_true'] at h1
  rcases h1 e he with h2 | h2
  · rw [hb] at h2; cases h2
  · exact h2
theorem Closed.set {listed : Array Bool} {j : Nat} (h : Closed md ops listed) (hj : j ∈ Region.ready md ops listed) : Closed md ops (listed.setIfInBounds j true) := fun k o ho hl e he hb => by
  obtain ⟨_, o', ho', hall⟩ := mem_ready.1 hj
  by_cases hjk : j = k
  · subst hjk
    rw [ho'] at ho
    cases ho
    exact getD_set_true (hall e he hb)
  · rw [getD_set_ne false hjk] at hl
    exact getD_set_true (h k o ho hl e he hb)
def preB (md : Region.Mode) (ops : Array Oper) : Nat → Nat → Nat → Bool
  | 0, x, i => x == i
  | n + 1, x, i => x == i || ((ops[x]?).map fun o => o.after.any fun e => Region.binds md e && preB md ops n e.on i).getD false
theorem pre_listed {listed : Array Bool} (hc : Closed md ops listed) {i : Nat} : ∀ (n x : Nat), listed.getD x false = true → preB md ops n x i = true → listed.getD i false = true
  | 0, x, hx, h => by
    have e : x = i := by simpa [preB] using h
    rw [← e]
    exact hx
  | n + 1, x, hx, h => by
    simp only [preB, Bool.or_eq_true, beq_iff_eq] at h
    rcases h with e | h
    · rw [← e]
      exact hx
    · cases ho : ops[x]? with
      | none => rw [ho] at h; simp at h
      | some o =>
        rw [ho] at h
        simp only [Option.map_some, Option.getD_some, Array.any_eq_true'] at h
        obtain ⟨e, he, h2⟩ := h
        simp only [Bool.and_eq_true] at h2
        exact pre_listed hc n e.on (hc x o ho hx e he h2.1) h2.2
theorem not_ready_of_pre {listed : Array Bool} (hc : Closed md ops listed) {i L n : Nat} (hp : preB md ops n L i = true) (hne : ¬ i = L) (hi : listed.getD i true = false) : L ∉ Region.ready md ops listed := fun hL => by
  obtain ⟨_, o, ho, hall⟩ := mem_ready.1 hL
  have hi' : ¬ listed.getD i false = true := fun h => by
    rcases Nat.lt_or_ge i listed.size with h' | h'
    · simp [h'] at h hi
      rw [h] at hi
      cases hi
    · simp [Array.getElem?_eq_none h'] at h
  cases n with
  | zero => exact hne (by have e : L = i := by simpa [preB] using hp
                          exact e.symm)
  | succ n =>
    simp only [preB, Bool.or_eq_true, beq_iff_eq] at hp
    rcases hp with e | h
    · exact hne e.symm
    · rw [ho] at h
      simp only [Option.map_some, Option.getD_some, Array.any_eq_true'] at h
      obtain ⟨e, he, h2⟩ := h
      simp only [Bool.and_eq_true] at h2
      exact hi' (pre_listed hc n e.on (hall e he h2.1) h2.2)
/-- Whatever order is picked from here on; L comes last. -/
def wpAnyL (P : Program) (md : Region.Mode) (ops : Array Oper) (Q : Exit → Act → World → Prop) (S : World → Prop) (L : Nat) : Nat → Array Bool → Act → Prop
  | 0, _, _ => False
  | fuel + 1, listed, a =>
    Region.ready md ops listed ≠ [] ∧
    ∀ i ∈ Region.ready md ops listed, ∀ w, S w →
      (i = L ∧ Region.ready md ops (listed.setIfInBounds L true) = [] ∧ wpOp P ops Q L (fun a' w' => Q .normal a' w') a w) ∨
      (i ≠ L ∧ wpOp P ops Q i (fun a' w' => S w' ∧ wpAnyL P md ops Q S L fuel (listed.setIfInBounds i true) a') a w)
theorem wpAny_of_last {L : Nat} : ∀ (fuel : Nat) (listed : Array Bool) (a : Act) (w : World), S w → wpAnyL P md ops Q S L fuel listed a → wpAny P md ops Q fuel listed a w
  | 0, _, _, _, _, h => h.elim
  | fuel + 1, listed, a, w, hS, h => ⟨fun h0 => absurd h0 h.1, fun i hi => by
    rcases h.2 i hi w hS with ⟨rfl, h1, h2⟩ | ⟨_, h2⟩
    · exact wpOp_mono (fun a' w' h' => wpAny_done h1 h' fuel) h2
    · exact wpOp_mono (fun a' w' h' => wpAny_of_last fuel _ a' w' h'.1 h'.2) h2⟩
theorem wpAnyL_first {L i n : Nat} {oi : Oper} {v : Value} (hi : ops[i]? = some oi) (hsel : ∀ (j : Nat) (o : Oper) cs b, ops[j]? = some o → o.op ≠ .select cs b)
    (hQ : ∀ c a w, Q (.panic c) (a.put oi.dst v) w → Q (.panic c) a w) (hp : preB md ops n L i = true) (hne : ¬ i = L) :
    ∀ (fuel : Nat) (listed : Array Bool) (a : Act), Closed md ops listed →
      (∀ j oj, ops[j]? = some oj → j ≠ i → listed.getD j true = false → (∀ e ∈ oj.after, Region.binds md e = true → e.on ≠ i) → oi.apart ops oj = true) →
      i ∈ Region.ready md ops listed → Does P ops S oi v a →
      wpAnyL P md ops Q S L fuel (listed.setIfInBounds i true) (a.put oi.dst v) → wpAnyL P md ops Q S L (fuel + 1) listed a := by
  intro fuel
  induction fuel with
  | zero => intro listed a _ _ _ _ H; exact H.elim
  | succ fuel ih =>
    intro listed a hcl hfree hr hy H
    refine ⟨fun h => (by rw [h] at hr; cases hr), fun j hj w hS => ?_⟩
    have hjL : ¬ j = L := fun e => by
      subst e
      exact not_ready_of_pre hcl hp hne (mem_ready.1 hr).1 hj
    refine .inr ⟨hjL, ?_⟩
    by_cases hji : j = i
    · subst hji
      exact hy.wpOp hi hS fun w' hS' => ⟨hS', H⟩
    · have h1 := (H.2 j (ready_mono hj hji) w hS).resolve_left (fun h => hjL h.1)
      obtain ⟨hjun, oj, hoj, hall⟩ := mem_ready.1 hj
      have hnot : ∀ e ∈ oj.after, Region.binds md e = true → e.on ≠ i := fun e he hb heq => by
        have h1 := hall e he hb
        have h0 := (mem_ready.1 hr).1
        rw [heq] at h1
        rcases Nat.lt_or_ge i listed.size with h' | h'
        · simp [h'] at h0 h1; rw [h0] at h1; cases h1
        · simp [Array.getElem?_eq_none h'] at h1
      have h2 := wpOp_putD hoj (hfree j oj hoj hji hjun hnot) (fun cs b => hsel i oi cs b hi) (fun cs b => hsel j oj cs b hoj) hQ hy h1.2
      have hfree' : ∀ k ok, ops[k]? = some ok → k ≠ i → (listed.setIfInBounds j true).getD k true = false →
          (∀ e ∈ ok.after, Region.binds md e = true → e.on ≠ i) → oi.apart ops ok = true := fun k ok hk hki hun hno => by
        refine hfree k ok hk hki ?_ hno
        by_cases hjk : j = k
        · subst hjk; exact hjun
        · rw [getD_set_ne true hjk] at hun; exact hun
      refine wpOp_mono (fun a' w' h3 => ⟨h3.2.1, ih (listed.setIfInBounds j true) a' (hcl.set hj) hfree' (ready_mono hr (Ne.symm hji)) h3.1 ?_⟩) h2
      rw [Array.setIfInBounds_comm _ _ hji]
      exact h3.2.2
/-- The next operation of the text, the slot named; n: how far back the last one's waits are looked through. -/
theorem last_at {L i : Nat} (n : Nat) (d : Option Tmp) {oi : Oper} {v : Value} {fuel : Nat} {listed : Array Bool} {a : Act} (hi : ops[i]? = some oi) (hd : oi.dst = d)
    (hs : Region.noSelect ops = true) (hf : Region.free md ops listed i = true) (hr : (Region.ready md ops listed).contains i = true) (hp : (preB md ops n L i && (i != L) && closedB md ops listed) = true)
    (hQ : ∀ c a w, Q (.panic c) (a.put d v) w → Q (.panic c) a w) (hy : Does P ops S oi v a)
    (h : wpAnyL P md ops Q S L fuel (listed.setIfInBounds i true) (a.put d v)) : wpAnyL P md ops Q S L (fuel + 1) listed a := by
  subst hd
  simp only [Bool.and_eq_true, bne_iff_ne, ne_eq] at hp
  exact wpAnyL_first hi (Region.noSelect_spec hs) hQ hp.1.1 hp.1.2 fuel listed a (closedB_spec hp.2) (Region.free_spec hi hf) (by simpa using hr) hy h
def lsB (md : Region.Mode) (ops : Array Oper) (listed : Array Bool) (i L n : Nat) (oi : Oper) (d : Option Tmp) : Bool := tmB md ops listed i oi d && (preB md ops n L i && (i != L) && closedB md ops listed)
theorem ls {L : Nat} (i n : Nat) (d : Option Tmp) {oi : Oper} {v : Value} {fuel : Nat} {listed : Array Bool} {a : Act} (hi : ops[i]? = some oi) (hc : lsB md ops listed i L n oi d = true)
    (hQ : ∀ c a w, Q (.panic c) (a.put d v) w → Q (.panic c) a w) (hy : Does P ops S oi v a)
    (h : wpAnyL P md ops Q S L fuel (listed.setIfInBounds i true) (a.put d v)) : wpAnyL P md ops Q S L (fuel + 1) listed a := by
  simp only [lsB, tmB, Bool.and_eq_true, decide_eq_true_eq] at hc
  exact last_at n d hi hc.1.1.1.1 hc.1.1.1.2 hc.1.1.2 hc.1.2 (by simp only [Bool.and_eq_true]; exact hc.2) hQ hy h
/-- The last one: it is carried out in whatever world keeps the condition. -/
theorem last_done {L : Nat} {oL : Oper} {fuel : Nat} {listed : Array Bool} {a : Act} (hi : ops[L]? = some oL) (hr : Region.ready md ops listed = [L]) (hr' : Region.ready md ops (listed.setIfInBounds L true) = [])
    (hw : Region.wanted oL (yielded ops a.tmps) = true) (h : ∀ w, S w → oL.wp P a w (fun a' w' => Q .normal a' w') Q) : wpAnyL P md ops Q S L (fuel + 1) listed a := by
  refine ⟨by rw [hr]; simp, fun i hi' w hS => ?_⟩
  rw [hr] at hi'
  have e : i = L := by simpa using hi'
  refine .inl ⟨e, hr', ?_⟩
  unfold wpOp
  simp only [hi, hw, if_true]
  exact .inl (h w hS)
theorem last_region {id : Nat} {a : Act} {w : World} (S : World → Prop) (L : Nat) (hm : P.follows .mixedOrders = true) (hS : S w.drew)
    (h : wpAnyL P .any ops Q S L ops.size (Array.replicate ops.size false) a) : (Code.region id ops true).wp P Q a w :=
  wp_region_any hm (wpAny_of_last _ _ _ _ hS h)
theorem does_skip {o : Oper} {a : Act} (h : Region.wanted o (yielded ops a.tmps) = false) : Does P ops S o undef a := .inr ⟨h, rfl⟩
theorem does_yield {o : Oper} {v : Value} {a : Act} (hw : Region.wanted o (yielded ops a.tmps) = true) (h : ∀ w, S w → (execOp a.eval o).run P w = .ok (.value v) w) : Does P ops S o v a :=
  .inl ⟨hw, fun w hS => by rw [h w hS]; exact ⟨rfl, hS⟩⟩
theorem does_call {o : Oper} {v : Value} {a : Act} {f : FuncId} {args : Array Value} (hw : Region.wanted o (yielded ops a.tmps) = true) (h : ∀ w, S w → (execOp a.eval o).run P w = .ok (.enter f args) w)
    (hc : ∀ w, S w → Calls P f args w (fun e w' => e = .returned v ∧ S w')) : Does P ops S o v a :=
  .inl ⟨hw, fun w hS => by rw [h w hS]; exact hc w hS⟩
end
end Go.Proofs.YtkbcplnlehdjfaaGreat

/- Shelves: maps from numbers to things that lie in blocks of their own. -/
namespace Go.Proofs.YtkbcplnlehdjfaaGreat
open Go.RowKit Go.Maps
theorem below_undrew' {B : Nat} {w w' : World} (h : Below B w.drew w') : Below B w w' := ⟨h.os, h.tape, h.output, h.size, h.block⟩
/-- A list of texts lies, and is not too long for a machine. -/
structure TextsFit (w : World) (a : Option Addr) (l : List ByteArray) : Prop where
 len : l.length ≤ 1048576
 short : ∀ s ∈ l, s.size ≤ 1048576
 row : Row w a (strK.flat l)
theorem TextsFit.below {w w' : World} {a : Option Addr} {l : List ByteArray} (h : TextsFit w a l) (hb : Below w.heap.size w w') : TextsFit w' a l := ⟨h.len, h.short, h.row.below hb⟩
set_option maxHeartbeats 1000000 in
theorem itemsOk_any (a : Option Addr) (l : List ByteArray) (cap : Nat) (most : Int) (w : World) (h : TextsFit w a l) :
  Calls Tryz.prog 299 #[.slice a l.length cap, .int .i64 most] w fun e w' => e = .returned (.bool (inB most 1 5 && textsB l most)) ∧ w' = w := by
 have H : Hid (TextsFit w a l) := h
 have hl := h.len
 clear h
 by_cases h1 : most < 1
 ·go_enter Tryz.func299, Tryz.ntmps299
  go_wp2
  go_ret
  exact ⟨ret_bool (by rw [inB_low h1]; rfl), rfl⟩
 by_cases h2 : 5 < most
 ·go_enter Tryz.func299, Tryz.ntmps299
  go_wp2
  go_ret
  exact ⟨ret_bool (by rw [inB_high h2]; rfl), rfl⟩
 have HIn : Hid (inB most 1 5 = true) := inB_true (by omega) (by omega)
 by_cases h3 : most < (l.length : Int)
 ·have HT : Hid (textsB l most = false) := by show textsB l most = false; simp [textsB]; intro _; omega
  have e1 : wrap64 (l.length : Int) = l.length := by unfold wrap64; omega
  go_enter Tryz.func299, Tryz.ntmps299
  go_wp2
  go_ret
  exact ⟨ret_bool (by rw [HT.out, Bool.and_false]), rfl⟩
 have HL : Hid (decide ((l.length : Int) ≤ most) = true) := decide_eq_true (by omega)
 have e1 : wrap64 (l.length : Int) = l.length := by unfold wrap64; omega
 go_enter Tryz.func299, Tryz.ntmps299
 go_wp2_with fail
 go_loop [21] (fun i => ∃ k : Nat, k ≤ l.length ∧ i = .int .i64 k ∧ Hid ((l.take k).all plainB = true)) (fun i => l.length - (intOf i).toNat)
 case atStart => exact ⟨0, Nat.zero_le _, rfl, (by simp : (l.take 0).all plainB = true)⟩
 case round =>
  obtain ⟨k, hk, rfl, HA⟩ := hrel
  by_cases hlt : k < l.length
  ·have i0 : (0 : Int) ≤ (k : Int) := by omega
   have i1 : (k : Int) < (l.length : Int) := by omega
   obtain ⟨x, hx⟩ : ∃ x, l[k]? = some x := ⟨_, List.getElem?_eq_getElem hlt⟩
   have HX : Hid (l[k]? = some x) := hx
   obtain ⟨g, rfl, c0⟩ := str_at H.out.row hx
   have hxs := H.out.short x (List.mem_of_getElem? hx)
   clear hx
   go_wp2_with fail
   refine (isPlain_any x w hxs).mono ?_
   rintro e w' ⟨rfl, rfl⟩
   cases hp : plainB x with
   | true =>
    have HP : Hid (plainB x = true) := hp
    clear hp
    go_wp2
    go_round
    case rel => exact ⟨k + 1, by omega, by go_num, all_take_snoc HA.out HX.out HP.out⟩
    case measure => simp [intOf]; omega
   | false =>
    have HP : Hid (plainB x = false) := hp
    clear hp
    go_wp2
    go_ret
    exact ⟨ret_bool (by rw [textsB_no HX.out HP.out, Bool.and_false]), rfl⟩
  ·have i1 : ¬ (k : Int) < (l.length : Int) := by omega
   have HT : Hid (l.all plainB = true) := by have := HA.out; rwa [List.take_of_length_le (by omega)] at this
   go_wp2
   go_ret
   exact ⟨ret_bool (by rw [HIn.out, textsB, HT.out, HL.out]; rfl), rfl⟩
theorem portB_false {id : Int} {out queue : Bool} {max : Int} {items : List ByteArray} (h : (inB max 1 5 && textsB items max) = false) : portB ⟨id, out, queue, max, items⟩ = false := by
 simp only [portB]
 cases h1 : inB max 1 5 <;> cases h2 : textsB items max <;> simp_all
theorem portB_true {id : Int} {out : Bool} {max : Int} {items : List ByteArray} (h : (inB max 1 5 && textsB items max) = true) (q : Bool) : portB ⟨id, out, q, max, items⟩ = (q || decide (max = 1)) := by
 simp only [Bool.and_eq_true] at h
 simp [portB, h.1, h.2]
/-- Whether a thing may be laid in. -/
def layB (most : Int) (m : MapL) (id : Int) (ok : Bool) : Bool := !(lookM m id).isSome && decide ((m.length : Int) < most) && inB id 1 1000 && ok
/-- What laying in does. -/
def LayEnds (w : World) (b : Nat) (m : MapL) (ok : Bool) (id : Int) (cs : Array Value) (T : TypeId) (e : Ending) (w' : World) : Prop :=
 e = .returned (.bool ok) ∧ (ok = false → Below w.heap.size w w') ∧ (ok = true → ∃ g, w.heap.size ≤ g ∧ w'.heap[g]? = some (.cells cs T (0, 0)) ∧ MapIs w' b (insM (id, g) m) ∧ w.grownBy w' (some b))
theorem layEnds_no {w w' : World} {b : Nat} {m : MapL} {ok : Bool} {id : Int} {cs : Array Value} {T : TypeId} (h : ok = false) (hb : Below w.heap.size w w') : LayEnds w b m ok id cs T (.returned (.bool false)) w' := by
 subst h
 exact ⟨rfl, fun _ => hb, fun h => by cases h⟩
/-- What is there while a thing is laid in. -/
structure LayIn (w W : World) (S X b : Nat) (m : MapL) (most : Int) (cs : Array Value) (T TS : TypeId) : Prop where
 sh : W.heap[S]? = some (.cells #[.int .i64 most, .map (some b)] TS (0, 0))
 bx : W.heap[X]? = some (.cells cs T (0, 0))
 mp : MapIs W b m
 bel : Below w.heap.size w W
section
variable {w W W' : World} {S X b : Nat} {m : MapL} {most : Int} {cs : Array Value} {T TS : TypeId}
theorem LayIn.below (h : LayIn w W S X b m most cs T TS) (hb : Below W.heap.size W W') : LayIn w W' S X b m most cs T TS :=
 ⟨(hb.block _ (Array.getElem?_eq_some_iff.1 h.sh).1).trans h.sh, (hb.block _ (Array.getElem?_eq_some_iff.1 h.bx).1).trans h.bx, h.mp.below hb, h.bel.trans (hb.mono h.bel.size)⟩
theorem LayIn.start (w : World) {b : Nat} {m : MapL} (h : MapIs w b m) (most : Int) (cs : Array Value) (T TS : TypeId) : LayIn w ((w.alloc (.cells #[.int .i64 most, .map (some b)] TS)).alloc (.cells cs T)) w.heap.size (w.heap.size + 1) b m most cs T TS := by
 have b1 : Below w.heap.size w (w.alloc (.cells #[.int .i64 most, .map (some b)] TS)) := (Below.refl _ _).alloc (Nat.le_refl _) _
 have b2 : Below w.heap.size w ((w.alloc (.cells #[.int .i64 most, .map (some b)] TS)).alloc (.cells cs T)) := b1.alloc b1.size _
 exact ⟨(heap_alloc_old _ _ (by simp)).trans (heap_alloc_new _ _), heap_alloc2_new _ _ _, h.below b2, b2⟩
theorem LayIn.drew (h : LayIn w W S X b m most cs T TS) : LayIn w W.drew S X b m most cs T TS := ⟨h.sh, h.bx, h.mp.same rfl, h.bel.drew⟩
theorem LayIn.cells (h : LayIn w W S X b m most cs T TS) : W.cell? ⟨S, 0, none⟩ = some (.int .i64 most) ∧ W.cell? ⟨S, 1, none⟩ = some (.map (some b)) := by
 have := h.sh
 simp [World.cell?, this]
/-- The thing is stored under its number. -/
theorem LayIn.put (h : LayIn w W S X b m most cs T TS) (hX : w.heap.size ≤ X) {t e : TypeId} (ht : Tryz.prog.underlying t = some (.map 2 e)) {id : Int} (hid : (Lit.int .i64 id).wf = true) (hn : lookM m id = none) (hm : m.length ≤ 1048576) (hXb : ¬ X = b) :
  ∃ w', (Instr.mapUpdate t (.map (some b)) (.int .i64 id) (.pointer (some ⟨X, 0, none⟩))).run Tryz.prog W = .ok () w' ∧ LayEnds w b m true id cs T (.returned (.bool true)) w' := by
 obtain ⟨w', hrun, hmp, htn⟩ := h.mp.put ht hid X hn hm
 refine ⟨w', hrun, ⟨rfl, (fun h => by cases h), fun _ => ⟨X, hX, ?_, hmp, ?_⟩⟩⟩
 ·have := htn.grown
  exact (this.block X (Array.getElem?_eq_some_iff.1 h.bx).1 (fun e => hXb (Option.some.inj e))).trans h.bx
 ·have hg := htn.grown
  exact ⟨hg.os.trans h.bel.os, hg.tape.trans h.bel.tape, hg.output.trans h.bel.output, Nat.le_trans h.bel.size hg.size, fun k hk hne => (hg.block k (Nat.lt_of_lt_of_le hk h.bel.size) hne).trans (h.bel.block k hk)⟩
end
end Go.Proofs.YtkbcplnlehdjfaaGreat

/- A shelf: a map from numbers to things, each in a block of its own. -/
namespace Go.Proofs.YtkbcplnlehdjfaaGreat
open Go.RowKit Go.Maps
section
variable {α : Type} {vs : α → Array Value} {num : α → Int} {T : TypeId}
/-- The numbers of the things, and their blocks. -/
def keysOf (num : α → Int) (l : List (α × Nat)) : MapL := l.map fun p => (num p.1, p.2)
/-- Block b is the map of the things; each lies in its block; no two blocks are one; all are from base on. -/
structure Shelf (vs : α → Array Value) (num : α → Int) (T : TypeId) (w : World) (base b : Nat) (l : List (α × Nat)) : Prop where
 map : MapIs w b (keysOf num l)
 box : ∀ p ∈ l, w.heap[p.2]? = some (.cells (vs p.1) T (0, 0))
 nodup : (b :: l.map (·.2)).Nodup
 low : ∀ g ∈ b :: l.map (·.2), base ≤ g
theorem Shelf.lt {w : World} {base b : Nat} {l : List (α × Nat)} (h : Shelf vs num T w base b l) : ∀ g ∈ b :: l.map (·.2), g < w.heap.size := fun g hg => by
 rcases List.mem_cons.1 hg with rfl | hg
 ·exact h.map.lt
 ·obtain ⟨p, hp, rfl⟩ := List.mem_map.1 hg
  exact (Array.getElem?_eq_some_iff.1 (h.box p hp)).1
theorem Shelf.same {w w' : World} {base b : Nat} {l : List (α × Nat)} (h : Shelf vs num T w base b l) (hs : ∀ g ∈ b :: l.map (·.2), w'.heap[g]? = w.heap[g]?) : Shelf vs num T w' base b l :=
 ⟨h.map.same (hs b (by simp)), fun p hp => (hs p.2 (List.mem_cons_of_mem _ (List.mem_map.2 ⟨p, hp, rfl⟩))).trans (h.box p hp), h.nodup, h.low⟩
theorem Shelf.below {w w' : World} {base b : Nat} {l : List (α × Nat)} (h : Shelf vs num T w base b l) (hb : Below w.heap.size w w') : Shelf vs num T w' base b l := h.same fun g hg => hb.block g (h.lt g hg)
theorem Shelf.lower {w : World} {base base' b : Nat} {l : List (α × Nat)} (h : Shelf vs num T w base b l) (hb : base' ≤ base) : Shelf vs num T w base' b l := ⟨h.map, h.box, h.nodup, fun g hg => Nat.le_trans hb (h.low g hg)⟩
theorem Shelf.none {w : World} {base b : Nat} (hb : w.heap[b]? = some (.map #[] 0)) (hl : base ≤ b) : Shelf vs num T w base b [] :=
 ⟨MapIs.of_empty hb, (fun p hp => by cases hp), by simp, fun g hg => by simp at hg; subst hg; exact hl⟩
/-- A thing more, in its place by number. -/
def insT (num : α → Int) (p : α × Nat) : List (α × Nat) → List (α × Nat)
 | [] => [p]
 | y :: r => if num p.1 < num y.1 then p :: y :: r else y :: insT num p r
theorem insT_keys (p : α × Nat) (l : List (α × Nat)) : keysOf num (insT num p l) = insM (num p.1, p.2) (keysOf num l) := by
 induction l with
 | nil => rfl
 | cons y r ih =>
  simp only [insT, keysOf, List.map_cons, insM] at ih ⊢
  split
  ·rfl
  ·simp only [List.map_cons, ih]
theorem insT_perm (p : α × Nat) (l : List (α × Nat)) : (insT num p l).Perm (p :: l) := by
 induction l with
 | nil => exact List.Perm.refl _
 | cons y r ih =>
  unfold insT
  split
  ·exact List.Perm.refl _
  ·exact (List.Perm.cons y ih).trans (List.Perm.swap p y r)
theorem insT_last {p : α × Nat} {l : List (α × Nat)} (h : ∀ q ∈ l, num q.1 < num p.1) : insT num p l = l ++ [p] := by
 induction l with
 | nil => rfl
 | cons y r ih =>
  have := h y (by simp)
  unfold insT
  rw [if_neg (by omega), ih (fun q hq => h q (by simp [hq]))]
  rfl
theorem keysOf_length (l : List (α × Nat)) : (keysOf num l).length = l.length := by simp [keysOf]
/-- Laid in. -/
theorem Shelf.lay {w w' : World} {base b : Nat} {l : List (α × Nat)} {x : α} {e : Ending} (h : Shelf vs num T w base b l) (hb : base ≤ w.heap.size) (hl : LayEnds w b (keysOf num l) true (num x) (vs x) T e w') :
  ∃ g, w.heap.size ≤ g ∧ Shelf vs num T w' base b (insT num (x, g) l) ∧ w.grownBy w' (some b) := by
 obtain ⟨-, -, h3⟩ := hl
 obtain ⟨g, hg, hbox, hmap, hgr⟩ := h3 rfl
 have hpm : ((insT num (x, g) l).map (·.2)).Perm (g :: l.map (·.2)) := (insT_perm (num := num) (x, g) l).map (·.2)
 refine ⟨g, hg, ⟨?_, fun p hp => ?_, ?_, fun k hk => ?_⟩, hgr⟩
 ·rw [insT_keys]; exact hmap
 ·rcases List.mem_cons.1 ((insT_perm (num := num) (x, g) l).mem_iff.1 hp) with rfl | hp
  ·exact hbox
  ·have hne : ¬ p.2 = b := fun e => by
    have := (List.nodup_cons.1 h.nodup).1
    exact this (List.mem_map.2 ⟨p, hp, e⟩)
   exact (hgr.block p.2 (h.lt p.2 (List.mem_cons_of_mem _ (List.mem_map.2 ⟨p, hp, rfl⟩))) (fun e => hne (Option.some.inj e))).trans (h.box p hp)
 ·refine ((List.Perm.cons b hpm).nodup_iff).2 ?_
  refine ((List.Perm.swap g b (l.map (·.2))).nodup_iff).2 ?_
  refine List.nodup_cons.2 ⟨fun hm => ?_, h.nodup⟩
  have := h.lt g hm
  omega
 ·rcases List.mem_cons.1 hk with rfl | hk
  ·exact h.low k (by simp)
  ·rcases List.mem_cons.1 (hpm.mem_iff.1 hk) with rfl | hk
   ·omega
   ·exact h.low k (List.mem_cons_of_mem _ hk)
/-- What making a shelf of a list ends in. -/
def ShelfEnds (vs : α → Array Value) (num : α → Int) (T : TypeId) (w : World) (most : Int) (ok : Bool) (list : List α) (e : Ending) (w' : World) : Prop :=
 Below w.heap.size w w' ∧ ((ok = false ∧ e = .returned (.tuple #[.agg #[.int .i64 0, .map none], .bool false])) ∨
  (ok = true ∧ ∃ b l, e = .returned (.tuple #[.agg #[.int .i64 most, .map (some b)], .bool true]) ∧ l.map (·.1) = list ∧ Shelf vs num T w' w.heap.size b l))
/-- What is there while a shelf is made. -/
structure ShIn (vs : α → Array Value) (num : α → Int) (T TS : TypeId) (w wr : World) (most : Int) (l : List (α × Nat)) : Prop where
 res : wr.heap[w.heap.size]? = some (.cells #[.int .i64 0, .map none] TS (0, 0))
 var : wr.heap[w.heap.size + 1 + 1]? = some (.cells #[.int .i64 most, .map (some (w.heap.size + 1))] TS (0, 0))
 shelf : Shelf vs num T wr (w.heap.size + 1) (w.heap.size + 1) l
 bel : Below w.heap.size w wr
theorem ShIn.below {TS : TypeId} {w wr w' : World} {most : Int} {l : List (α × Nat)} (h : ShIn vs num T TS w wr most l) (hb : Below wr.heap.size wr w') : ShIn vs num T TS w w' most l :=
 ⟨(hb.block _ (Array.getElem?_eq_some_iff.1 h.res).1).trans h.res, (hb.block _ (Array.getElem?_eq_some_iff.1 h.var).1).trans h.var, h.shelf.below hb, h.bel.trans (hb.mono h.bel.size)⟩
theorem ShIn.start (TS : TypeId) (w : World) (most : Int) : ShIn vs num T TS w (((w.alloc (.cells #[.int .i64 0, .map none] TS)).alloc (.map #[] 0)).alloc (.cells #[.int .i64 most, .map (some (w.heap.size + 1))] TS)) most [] := by
 have b1 : Below w.heap.size w (w.alloc (.cells #[.int .i64 0, .map none] TS)) := (Below.refl _ _).alloc (Nat.le_refl _) _
 have b2 := b1.alloc b1.size (.map #[] 0)
 have b3 := b2.alloc b2.size (.cells #[.int .i64 most, .map (some (w.heap.size + 1))] TS)
 refine ⟨?_, ?_, Shelf.none ?_ (by omega), b3⟩
 ·rw [heap_alloc_old _ _ (by simp; omega), heap_alloc_old _ _ (by simp), heap_alloc_new]
 ·have := heap_alloc_new ((w.alloc (.cells #[.int .i64 0, .map none] TS)).alloc (.map #[] 0)) (.cells #[.int .i64 most, .map (some (w.heap.size + 1))] TS)
  simpa using this
 ·rw [heap_alloc_old _ _ (by simp)]
  exact heap_alloc2_new _ _ _
theorem ShIn.cells {TS : TypeId} {w wr : World} {most : Int} {l : List (α × Nat)} (h : ShIn vs num T TS w wr most l) :
  wr.cell? ⟨w.heap.size, 0, none⟩ = some (.int .i64 0) ∧ wr.cell? ⟨w.heap.size, 1, none⟩ = some (.map none) ∧ wr.cell? ⟨w.heap.size + 1 + 1, 0, none⟩ = some (.int .i64 most) ∧ wr.cell? ⟨w.heap.size + 1 + 1, 1, none⟩ = some (.map (some (w.heap.size + 1))) ∧ wr.frozen? ⟨w.heap.size, 0, none⟩ = false ∧ wr.frozen? ⟨w.heap.size, 1, none⟩ = false := by
 have h1 := h.res
 have h2 := h.var
 refine ⟨by simp [World.cell?, h1], by simp [World.cell?, h1], by simp [World.cell?, h2], by simp [World.cell?, h2], frozen_of_row _ _ _ _ _ h1, frozen_of_row _ _ _ _ _ h1⟩
theorem ShIn.lay {TS : TypeId} {w wr w' : World} {most : Int} {l : List (α × Nat)} {x : α} {e : Ending} (h : ShIn vs num T TS w wr most l) (hl : LayEnds wr (w.heap.size + 1) (keysOf num l) true (num x) (vs x) T e w') (hr : ∀ q ∈ l, num q.1 < num x) :
  ∃ g, ShIn vs num T TS w w' most (l ++ [(x, g)]) := by
 obtain ⟨g, hg, hs, hgr⟩ := h.shelf.lay (by have := (Array.getElem?_eq_some_iff.1 h.var).1; omega) hl
 rw [insT_last hr] at hs
 refine ⟨g, (hgr.block _ (Array.getElem?_eq_some_iff.1 h.res).1 (by simp)).trans h.res, (hgr.block _ (Array.getElem?_eq_some_iff.1 h.var).1 (by simp)).trans h.var, hs, ?_⟩
 exact h.bel.trans ⟨hgr.os, hgr.tape, hgr.output, hgr.size, fun k hk => hgr.block k (by have := h.bel.size; omega) (fun e => by have := Option.some.inj e; omega)⟩
theorem lastOf_ge {ok : α → Bool} : ∀ {l : List α} {last : Int}, thingsB num ok last l = true → last ≤ lastOf num last l ∧ ∀ y ∈ l, num y ≤ lastOf num last l
 | [], last, _ => ⟨Int.le_refl _, fun y hy => by cases hy⟩
 | x :: r, last, h => by
  simp only [thingsB, Bool.and_eq_true, decide_eq_true_eq] at h
  obtain ⟨h1, h2⟩ := lastOf_ge h.2
  simp only [lastOf]
  refine ⟨by omega, fun y hy => ?_⟩
  rcases List.mem_cons.1 hy with rfl | hy
  ·exact h1
  ·exact h2 y hy
theorem rises_last {ok : α → Bool} {l : List (α × Nat)} {list : List α} {last : Int} {x : α} (hm : l.map (·.1) = list) (h : thingsB num ok last list = true) (hx : lastOf num last list < num x) : ∀ q ∈ l, num q.1 < num x := fun q hq => by
 have := (lastOf_ge h).2 q.1 (by rw [← hm]; exact List.mem_map.2 ⟨q, hq, rfl⟩)
 omega
theorem look_none {l : List (α × Nat)} {x : α} (h : ∀ q ∈ l, num q.1 < num x) : lookM (keysOf num l) (num x) = none := by
 rw [lookM_none]
 intro hm
 simp only [keysOf, List.map_map, List.mem_map] at hm
 obtain ⟨q, hq, e⟩ := hm
 have := h q hq
 simp only [Function.comp] at e
 omega
/-- Laying in says no: the list is no right one. -/
theorem things_lay_no {ok : α → Bool} {list : List α} {k : Nat} {x : α} {most : Int} {l : List (α × Nat)} (hx : list[k]? = some x) (hm : l.map (·.1) = list.take k) (hth : thingsB num ok 0 (list.take k) = true) (hlt : lastOf num 0 (list.take k) < num x) (h : layB most (keysOf num l) (num x) (ok x) = false) :
  (thingsB num ok 0 list && decide ((list.length : Int) ≤ max most 0)) = false := by
 have hk : k < list.length := (List.getElem?_eq_some_iff.1 hx).1
 have hn := look_none (rises_last hm hth hlt)
 have hlen : l.length = k := by
  have := congrArg List.length hm
  simp only [List.length_map, List.length_take] at this
  omega
 simp only [layB, hn, keysOf_length, hlen] at h
 by_cases h1 : (k : Int) < most
 ·have : thingsB num ok 0 list = false := things_no hx (fun hh => by
   rw [hh.1, hh.2.2, decide_eq_true h1] at h
   simp at h)
  rw [this]; rfl
 ·have : decide ((list.length : Int) ≤ max most 0) = false := decide_eq_false (by omega)
  rw [this, Bool.and_false]
theorem things_lay_yes {ok : α → Bool} {list : List α} {k : Nat} {x : α} {most : Int} {l : List (α × Nat)} (hx : list[k]? = some x) (hm : l.map (·.1) = list.take k) (hth : thingsB num ok 0 (list.take k) = true) (hlt : lastOf num 0 (list.take k) < num x) (h : layB most (keysOf num l) (num x) (ok x) = true) :
  thingsB num ok 0 (list.take (k + 1)) = true ∧ ((k + 1 : Nat) : Int) ≤ max most 0 := by
 have hlen : l.length = k := by
  have := congrArg List.length hm
  have hk : k < list.length := (List.getElem?_eq_some_iff.1 hx).1
  simp only [List.length_map, List.length_take] at this
  omega
 simp only [layB, Bool.and_eq_true, decide_eq_true_eq, keysOf_length, hlen] at h
 exact ⟨things_yes hth hx h.1.2 hlt h.2, by omega⟩
theorem ShIn.away {TS : TypeId} {w wr : World} {most : Int} {l : List (α × Nat)} (h : ShIn vs num T TS w wr most l) (v0 v1 : Value) : Shelf vs num T ((wr.setCell ⟨w.heap.size, 0, none⟩ v0).setCell ⟨w.heap.size, 1, none⟩ v1) w.heap.size (w.heap.size + 1) l ∧ Below w.heap.size w ((wr.setCell ⟨w.heap.size, 0, none⟩ v0).setCell ⟨w.heap.size, 1, none⟩ v1) := by
 refine ⟨(h.shelf.same fun g hg => ?_).lower (by omega), (h.bel.setCell (Nat.le_refl _) _).setCell (Nat.le_refl _) _⟩
 have := h.shelf.low g hg
 rw [Below.heap_setCell _ _ _ _ (by show g ≠ w.heap.size; omega), Below.heap_setCell _ _ _ _ (by show g ≠ w.heap.size; omega)]
end
end Go.Proofs.YtkbcplnlehdjfaaGreat

/- What the library functions named here are at this program: tables of numbers and one theorem each, laid by the tool of the shelf in plain words. -/
namespace Go.Proofs
open Go.Shelf
def Tryz.keysProc_ren : Go.Shelf.Ren := ⟨fun | 7 => 221 | 10 => 232 | n => n, fun | 23 => 108 | 26 => 2 | 3 => 102 | 28 => 275 | 0 => 0 | 27 => 274 | 33 => 153 | 4 => 4 | n => n, fun | n => n⟩
theorem Tryz.keysProc : Go.Proofs.SlLaysZI.n7 Tryz.prog Tryz.keysProc_ren := {
 mixed := by kernel_rfl
 f7 := ⟨Tryz.f221.name, by decide, Tryz.func221.trans (congrArg some (by kernel_rfl))⟩
 f10 := ⟨Tryz.f232.name, by decide, Tryz.func232.trans (congrArg some (by kernel_rfl))⟩
 t0 := Tryz.underlying0
 a0 := Tryz.isAgg0
 z0 := Tryz.sizeOf0
 v0 := Tryz.zeroValue0
 t4 := Tryz.underlying4
 a4 := Tryz.isAgg4
 z4 := Tryz.sizeOf4
 v4 := Tryz.zeroValue4
 t23 := Tryz.underlying108
 a23 := Tryz.isAgg108
 z23 := Tryz.sizeOf108
 v23 := Tryz.zeroValue108
 t26 := Tryz.underlying2
 a26 := Tryz.isAgg2
 z26 := Tryz.sizeOf2
 v26 := Tryz.zeroValue2
 t27 := Tryz.underlying274
 a27 := Tryz.isAgg274
 z27 := Tryz.sizeOf274
 v27 := Tryz.zeroValue274
 t28 := Tryz.underlying275
 a28 := Tryz.isAgg275
 z28 := Tryz.sizeOf275
 v28 := Tryz.zeroValue275
 t33 := Tryz.underlying153
 a33 := Tryz.isAgg153
 z33 := Tryz.sizeOf153
 v33 := Tryz.zeroValue153 }
def Tryz.keysSem_ren : Go.Shelf.Ren := ⟨fun | 7 => 223 | 10 => 239 | n => n, fun | 23 => 111 | 26 => 2 | 3 => 221 | 28 => 275 | 0 => 0 | 27 => 274 | 33 => 153 | 4 => 4 | n => n, fun | n => n⟩
theorem Tryz.keysSem : Go.Proofs.SlLaysZI.n7 Tryz.prog Tryz.keysSem_ren := {
 mixed := by kernel_rfl
 f7 := ⟨Tryz.f223.name, by decide, Tryz.func223.trans (congrArg some (by kernel_rfl))⟩
 f10 := ⟨Tryz.f239.name, by decide, Tryz.func239.trans (congrArg some (by kernel_rfl))⟩
 t0 := Tryz.underlying0
 a0 := Tryz.isAgg0
 z0 := Tryz.sizeOf0
 v0 := Tryz.zeroValue0
 t4 := Tryz.underlying4
 a4 := Tryz.isAgg4
 z4 := Tryz.sizeOf4
 v4 := Tryz.zeroValue4
 t23 := Tryz.underlying111
 a23 := Tryz.isAgg111
 z23 := Tryz.sizeOf111
 v23 := Tryz.zeroValue111
 t26 := Tryz.underlying2
 a26 := Tryz.isAgg2
 z26 := Tryz.sizeOf2
 v26 := Tryz.zeroValue2
 t27 := Tryz.underlying274
 a27 := Tryz.isAgg274
 z27 := Tryz.sizeOf274
 v27 := Tryz.zeroValue274
 t28 := Tryz.underlying275
 a28 := Tryz.isAgg275
 z28 := Tryz.sizeOf275
 v28 := Tryz.zeroValue275
 t33 := Tryz.underlying153
 a33 := Tryz.isAgg153
 z33 := Tryz.sizeOf153
 v33 := Tryz.zeroValue153 }
def Tryz.keysEvent_ren : Go.Shelf.Ren := ⟨fun | 7 => 224 | 10 => 240 | n => n, fun | 23 => 114 | 26 => 2 | 3 => 222 | 28 => 275 | 0 => 0 | 27 => 274 | 33 => 153 | 4 => 4 | n => n, fun | n => n⟩
theorem Tryz.keysEvent : Go.Proofs.SlLaysZI.n7 Tryz.prog Tryz.keysEvent_ren := {
 mixed := by kernel_rfl
 f7 := ⟨Tryz.f224.name, by decide, Tryz.func224.trans (congrArg some (by kernel_rfl))⟩
 f10 := ⟨Tryz.f240.name, by decide, Tryz.func240.trans (congrArg some (by kernel_rfl))⟩
 t0 := Tryz.underlying0
 a0 := Tryz.isAgg0
 z0 := Tryz.sizeOf0
 v0 := Tryz.zeroValue0
 t4 := Tryz.underlying4
 a4 := Tryz.isAgg4
 z4 := Tryz.sizeOf4
 v4 := Tryz.zeroValue4
 t23 := Tryz.underlying114
 a23 := Tryz.isAgg114
 z23 := Tryz.sizeOf114
 v23 := Tryz.zeroValue114
 t26 := Tryz.underlying2
 a26 := Tryz.isAgg2
 z26 := Tryz.sizeOf2
 v26 := Tryz.zeroValue2
 t27 := Tryz.underlying274
 a27 := Tryz.isAgg274
 z27 := Tryz.sizeOf274
 v27 := Tryz.zeroValue274
 t28 := Tryz.underlying275
 a28 := Tryz.isAgg275
 z28 := Tryz.sizeOf275
 v28 := Tryz.zeroValue275
 t33 := Tryz.underlying153
 a33 := Tryz.isAgg153
 z33 := Tryz.sizeOf153
 v33 := Tryz.zeroValue153 }
def Tryz.keysBoard_ren : Go.Shelf.Ren := ⟨fun | 7 => 225 | 10 => 241 | n => n, fun | 23 => 117 | 26 => 2 | 3 => 223 | 28 => 275 | 0 => 0 | 27 => 274 | 33 => 153 | 4 => 4 | n => n, fun | n => n⟩
theorem Tryz.keysBoard : Go.Proofs.SlLaysZI.n7 Tryz.prog Tryz.keysBoard_ren := {
 mixed := by kernel_rfl
 f7 := ⟨Tryz.f225.name, by decide, Tryz.func225.trans (congrArg some (by kernel_rfl))⟩
 f10 := ⟨Tryz.f241.name, by decide, Tryz.func241.trans (congrArg some (by kernel_rfl))⟩
 t0 := Tryz.underlying0
 a0 := Tryz.isAgg0
 z0 := Tryz.sizeOf0
 v0 := Tryz.zeroValue0
 t4 := Tryz.underlying4
 a4 := Tryz.isAgg4
 z4 := Tryz.sizeOf4
 v4 := Tryz.zeroValue4
 t23 := Tryz.underlying117
 a23 := Tryz.isAgg117
 z23 := Tryz.sizeOf117
 v23 := Tryz.zeroValue117
 t26 := Tryz.underlying2
 a26 := Tryz.isAgg2
 z26 := Tryz.sizeOf2
 v26 := Tryz.zeroValue2
 t27 := Tryz.underlying274
 a27 := Tryz.isAgg274
 z27 := Tryz.sizeOf274
 v27 := Tryz.zeroValue274
 t28 := Tryz.underlying275
 a28 := Tryz.isAgg275
 z28 := Tryz.sizeOf275
 v28 := Tryz.zeroValue275
 t33 := Tryz.underlying153
 a33 := Tryz.isAgg153
 z33 := Tryz.sizeOf153
 v33 := Tryz.zeroValue153 }
def Tryz.keysBuffer_ren : Go.Shelf.Ren := ⟨fun | 7 => 226 | 10 => 242 | n => n, fun | 23 => 120 | 26 => 2 | 3 => 224 | 28 => 275 | 0 => 0 | 27 => 274 | 33 => 153 | 4 => 4 | n => n, fun | n => n⟩
theorem Tryz.keysBuffer : Go.Proofs.SlLaysZI.n7 Tryz.prog Tryz.keysBuffer_ren := {
 mixed := by kernel_rfl
 f7 := ⟨Tryz.f226.name, by decide, Tryz.func226.trans (congrArg some (by kernel_rfl))⟩
 f10 := ⟨Tryz.f242.name, by decide, Tryz.func242.trans (congrArg some (by kernel_rfl))⟩
 t0 := Tryz.underlying0
 a0 := Tryz.isAgg0
 z0 := Tryz.sizeOf0
 v0 := Tryz.zeroValue0
 t4 := Tryz.underlying4
 a4 := Tryz.isAgg4
 z4 := Tryz.sizeOf4
 v4 := Tryz.zeroValue4
 t23 := Tryz.underlying120
 a23 := Tryz.isAgg120
 z23 := Tryz.sizeOf120
 v23 := Tryz.zeroValue120
 t26 := Tryz.underlying2
 a26 := Tryz.isAgg2
 z26 := Tryz.sizeOf2
 v26 := Tryz.zeroValue2
 t27 := Tryz.underlying274
 a27 := Tryz.isAgg274
 z27 := Tryz.sizeOf274
 v27 := Tryz.zeroValue274
 t28 := Tryz.underlying275
 a28 := Tryz.isAgg275
 z28 := Tryz.sizeOf275
 v28 := Tryz.zeroValue275
 t33 := Tryz.underlying153
 a33 := Tryz.isAgg153
 z33 := Tryz.sizeOf153
 v33 := Tryz.zeroValue153 }
def Tryz.keysPort_ren : Go.Shelf.Ren := ⟨fun | 7 => 227 | 10 => 243 | n => n, fun | 23 => 123 | 26 => 2 | 3 => 225 | 28 => 275 | 0 => 0 | 27 => 274 | 33 => 153 | 4 => 4 | n => n, fun | n => n⟩
theorem Tryz.keysPort : Go.Proofs.SlLaysZI.n7 Tryz.prog Tryz.keysPort_ren := {
 mixed := by kernel_rfl
 f7 := ⟨Tryz.f227.name, by decide, Tryz.func227.trans (congrArg some (by kernel_rfl))⟩
 f10 := ⟨Tryz.f243.name, by decide, Tryz.func243.trans (congrArg some (by kernel_rfl))⟩
 t0 := Tryz.underlying0
 a0 := Tryz.isAgg0
 z0 := Tryz.sizeOf0
 v0 := Tryz.zeroValue0
 t4 := Tryz.underlying4
 a4 := Tryz.isAgg4
 z4 := Tryz.sizeOf4
 v4 := Tryz.zeroValue4
 t23 := Tryz.underlying123
 a23 := Tryz.isAgg123
 z23 := Tryz.sizeOf123
 v23 := Tryz.zeroValue123
 t26 := Tryz.underlying2
 a26 := Tryz.isAgg2
 z26 := Tryz.sizeOf2
 v26 := Tryz.zeroValue2
 t27 := Tryz.underlying274
 a27 := Tryz.isAgg274
 z27 := Tryz.sizeOf274
 v27 := Tryz.zeroValue274
 t28 := Tryz.underlying275
 a28 := Tryz.isAgg275
 z28 := Tryz.sizeOf275
 v28 := Tryz.zeroValue275
 t33 := Tryz.underlying153
 a33 := Tryz.isAgg153
 z33 := Tryz.sizeOf153
 v33 := Tryz.zeroValue153 }
def Tryz.sortedA_ren : Go.Shelf.Ren := ⟨fun | 6 => 220 | 8 => 230 | 9 => 231 | 11 => 244 | 13 => 246 | 12 => 245 | 23 => 258 | 24 => 259 | 14 => 249 | 15 => 250 | 16 => 251 | 17 => 252 | 18 => 253 | 19 => 254 | 20 => 255 | 21 => 256 | 22 => 257 | 25 => 260 | 26 => 261 | 27 => 262 | 28 => 263 | 29 => 264 | 30 => 265 | 31 => 266 | n => n, fun | 26 => 2 | 28 => 275 | 24 => 189 | 0 => 0 | 3 => 3 | 37 => 251 | 48 => 301 | 50 => 249 | 4 => 4 | 40 => 293 | 39 => 292 | 45 => 298 | 5 => 5 | 9 => 9 | 51 => 303 | 55 => 306 | 57 => 308 | 58 => 309 | 33 => 153 | n => n, fun | n => n⟩
theorem Tryz.sortedA : Go.Proofs.SlLaysZI.n6 Tryz.prog Tryz.sortedA_ren := {
 mixed := by kernel_rfl
 f6 := ⟨Tryz.f220.name, by decide, Tryz.func220.trans (congrArg some (by kernel_rfl))⟩
 f8 := ⟨Tryz.f230.name, by decide, Tryz.func230.trans (congrArg some (by kernel_rfl))⟩
 f11 := ⟨Tryz.f244.name, by decide, Tryz.func244.trans (congrArg some (by kernel_rfl))⟩
 t0 := Tryz.underlying0
 a0 := Tryz.isAgg0
 z0 := Tryz.sizeOf0
 v0 := Tryz.zeroValue0
 t24 := Tryz.underlying189
 a24 := Tryz.isAgg189
 z24 := Tryz.sizeOf189
 v24 := Tryz.zeroValue189
 t26 := Tryz.underlying2
 a26 := Tryz.isAgg2
 z26 := Tryz.sizeOf2
 v26 := Tryz.zeroValue2
 t28 := Tryz.underlying275
 a28 := Tryz.isAgg275
 z28 := Tryz.sizeOf275
 v28 := Tryz.zeroValue275
 i26 := by kernel_rfl }
def Tryz.sortA_ren : Go.Shelf.Ren := ⟨fun | 5 => 231 | 8 => 246 | 7 => 245 | 19 => 258 | 20 => 259 | 10 => 249 | 11 => 250 | 12 => 251 | 13 => 252 | 14 => 253 | 15 => 254 | 16 => 255 | 17 => 256 | 18 => 257 | 30 => 260 | 31 => 261 | 32 => 262 | 33 => 263 | 34 => 264 | 35 => 265 | 40 => 266 | n => n, fun | 23 => 189 | 25 => 2 | 3 => 3 | 32 => 251 | 22 => 189 | 0 => 0 | 44 => 301 | 46 => 249 | 4 => 4 | 36 => 293 | 35 => 292 | 41 => 298 | 5 => 5 | 9 => 9 | 53 => 303 | 57 => 306 | 63 => 308 | 64 => 309 | n => n, fun | n => n⟩
theorem Tryz.sortA : Go.Proofs.SlLaysM.n5 Tryz.prog Tryz.sortA_ren := {
 mixed := by kernel_rfl
 f5 := ⟨Tryz.f231.name, by decide, Tryz.func231.trans (congrArg some (by kernel_rfl))⟩
 f7 := ⟨Tryz.f245.name, by decide, Tryz.func245.trans (congrArg some (by kernel_rfl))⟩
 f8 := Tryz.func246.trans (congrArg some (by kernel_rfl))
 f10 := ⟨Tryz.f249.name, by decide, Tryz.func249.trans (congrArg some (by kernel_rfl))⟩
 f11 := ⟨Tryz.f250.name, by decide, Tryz.func250.trans (congrArg some (by kernel_rfl))⟩
 f12 := ⟨Tryz.f251.name, by decide, Tryz.func251.trans (congrArg some (by kernel_rfl))⟩
 f13 := ⟨Tryz.f252.name, by decide, Tryz.func252.trans (congrArg some (by kernel_rfl))⟩
 f14 := ⟨Tryz.f253.name, by decide, Tryz.func253.trans (congrArg some (by kernel_rfl))⟩
 f15 := ⟨Tryz.f254.name, by decide, Tryz.func254.trans (congrArg some (by kernel_rfl))⟩
 f16 := ⟨Tryz.f255.name, by decide, Tryz.func255.trans (congrArg some (by kernel_rfl))⟩
 f17 := ⟨Tryz.f256.name, by decide, Tryz.func256.trans (congrArg some (by kernel_rfl))⟩
 f18 := ⟨Tryz.f257.name, by decide, Tryz.func257.trans (congrArg some (by kernel_rfl))⟩
 f19 := Tryz.func258.trans (congrArg some (by kernel_rfl))
 f20 := Tryz.func259.trans (congrArg some (by kernel_rfl))
 f30 := ⟨Tryz.f260.name, by decide, Tryz.func260.trans (congrArg some (by kernel_rfl))⟩
 f31 := Tryz.func261.trans (congrArg some (by kernel_rfl))
 f32 := Tryz.func262.trans (congrArg some (by kernel_rfl))
 f33 := ⟨Tryz.f263.name, by decide, Tryz.func263.trans (congrArg some (by kernel_rfl))⟩
 f34 := ⟨Tryz.f264.name, by decide, Tryz.func264.trans (congrArg some (by kernel_rfl))⟩
 f35 := ⟨Tryz.f265.name, by decide, Tryz.func265.trans (congrArg some (by kernel_rfl))⟩
 f40 := ⟨Tryz.f266.name, by decide, Tryz.func266.trans (congrArg some (by kernel_rfl))⟩
 t0 := Tryz.underlying0
 a0 := Tryz.isAgg0
 z0 := Tryz.sizeOf0
 v0 := Tryz.zeroValue0
 t3 := Tryz.underlying3
 a3 := Tryz.isAgg3
 z3 := Tryz.sizeOf3
 v3 := Tryz.zeroValue3
 t4 := Tryz.underlying4
 a4 := Tryz.isAgg4
 z4 := Tryz.sizeOf4
 v4 := Tryz.zeroValue4
 t5 := Tryz.underlying5
 a5 := Tryz.isAgg5
 z5 := Tryz.sizeOf5
 v5 := Tryz.zeroValue5
 t9 := Tryz.underlying9
 a9 := Tryz.isAgg9
 z9 := Tryz.sizeOf9
 v9 := Tryz.zeroValue9
 t22 := Tryz.underlying189
 a22 := Tryz.isAgg189
 z22 := Tryz.sizeOf189
 v22 := Tryz.zeroValue189
 t23 := Tryz.underlying189
 a23 := Tryz.isAgg189
 z23 := Tryz.sizeOf189
 v23 := Tryz.zeroValue189
 t25 := Tryz.underlying2
 a25 := Tryz.isAgg2
 z25 := Tryz.sizeOf2
 v25 := Tryz.zeroValue2
 t32 := Tryz.underlying251
 a32 := Tryz.isAgg251
 z32 := Tryz.sizeOf251
 v32 := Tryz.zeroValue251
 t35 := Tryz.underlying292
 a35 := Tryz.isAgg292
 z35 := Tryz.sizeOf292
 v35 := Tryz.zeroValue292
 t36 := Tryz.underlying293
 a36 := Tryz.isAgg293
 z36 := Tryz.sizeOf293
 v36 := Tryz.zeroValue293
 t41 := Tryz.underlying298
 a41 := Tryz.isAgg298
 z41 := Tryz.sizeOf298
 v41 := Tryz.zeroValue298
 t44 := Tryz.underlying301
 a44 := Tryz.isAgg301
 z44 := Tryz.sizeOf301
 v44 := Tryz.zeroValue301
 t46 := Tryz.underlying249
 a46 := Tryz.isAgg249
 z46 := Tryz.sizeOf249
 v46 := Tryz.zeroValue249
 t53 := Tryz.underlying303
 a53 := Tryz.isAgg303
 z53 := Tryz.sizeOf303
 v53 := Tryz.zeroValue303
 t57 := Tryz.underlying306
 a57 := Tryz.isAgg306
 z57 := Tryz.sizeOf306
 v57 := Tryz.zeroValue306
 t63 := Tryz.underlying308
 a63 := Tryz.isAgg308
 z63 := Tryz.sizeOf308
 v63 := Tryz.zeroValue308
 t64 := Tryz.underlying309
 a64 := Tryz.isAgg309
 z64 := Tryz.sizeOf309
 v64 := Tryz.zeroValue309 }
end Go.Proofs

/- Sorted lists of numbers; slices that a call owns, and what lies in them. -/
namespace Go.Proofs
open Go.RowKit Go.Maps Go.Sort Go.Shelf
theorem Tryz.sortsA (m : Nat) : AnyZI.SortsIn Tryz.prog Tryz.sortedA_ren Fence.wide m :=
  ⟨fun blk off cap ss W hH hblk hsz => callsIn_wide.2 (AnyM.slices_Sort_int Tryz.sortA blk off cap ss W hH hblk hsz),
   fun p cap W => callsIn_wide.2 (AnyM.slices_Sort_int_none Tryz.sortA p cap W)⟩
namespace YtkbcplnlehdjfaaGreat
theorem perm_sorted_eq : ∀ {l1 l2 : List Int}, l1.Perm l2 → l1.Pairwise (· ≤ ·) → l2.Pairwise (· ≤ ·) → l1 = l2
  | [], l2, hp, _, _ => (List.nil_perm.1 hp).symm
  | a :: t, [], hp, _, _ => absurd (List.perm_nil.1 hp) (by simp)
  | a :: t, b :: s, hp, h1, h2 => by
    obtain ⟨ha, ht⟩ := List.pairwise_cons.1 h1
    obtain ⟨hb, hs⟩ := List.pairwise_cons.1 h2
    have hab : a = b := by
      have m1 : a ∈ b :: s := hp.mem_iff.1 (by simp)
      have m2 : b ∈ a :: t := hp.mem_iff.2 (by simp)
      rcases List.mem_cons.1 m1 with e | m1
      · exact e
      · rcases List.mem_cons.1 m2 with e | m2
        · exact e.symm
        · have := ha b m2
          have := hb a m1
          omega
    subst hab
    rw [perm_sorted_eq (List.perm_cons a |>.1 hp) ht hs]
theorem keys_int (m : MapL) : intKeys (mapD m) = m.map (·.1) := by
  simp only [intKeys, mapD, List.map_map]
  rfl
theorem keys_sorted {m : MapL} (h : Rises m) {ss : List Int} (hp : ss.Perm (intKeys (mapD m))) : ss.mergeSort (fun x y => decide (x ≤ y)) = m.map (·.1) := by
  rw [keys_int] at hp
  refine perm_sorted_eq ((List.mergeSort_perm _ _).trans hp) ?_ ?_
  · have := List.pairwise_mergeSort (le := fun x y : Int => decide (x ≤ y)) (fun a b c h1 h2 => by simp at *; omega) (fun a b => by simp; omega) ss
    exact this.imp (fun {a b} h => by simpa using h)
  · rw [List.pairwise_map]
    exact List.Pairwise.imp (fun {a b} h => by omega) h
theorem own_form {w : World} {base n size : Nat} {e : TypeId} {v : Value} {xs : List Value} (h : w.ownsRow base e size v n xs) : ∃ a cap, v = .slice a n cap ∧ Row w a xs := by
  obtain ⟨hl, h2⟩ := h
  rcases h2 with ⟨rfl, rfl⟩ | ⟨g, cap, cur, rfl, hb, hg, h3, h4, h5, h6⟩
  · have : xs = [] := List.eq_nil_of_length_eq_zero (by simpa using hl)
    subst this
    exact ⟨none, 0, rfl, Row.nothing _ _⟩
  · refine ⟨some ⟨g, 0, none⟩, cap, rfl, fun j u hu => ⟨g, rfl, ?_⟩⟩
    rw [cell_of_row w g j cur e (0, 0) hg]
    rw [← h6, List.getElem?_take] at hu
    split at hu
    · simpa using hu
    · cases hu
theorem own_low {w : World} {base base' n size : Nat} {e : TypeId} {v : Value} {xs : List Value} (h : w.ownsRow base e size v n xs) (hb : base' ≤ base) : w.ownsRow base' e size v n xs := by
  obtain ⟨hl, h2⟩ := h
  refine ⟨hl, ?_⟩
  rcases h2 with h2 | ⟨g, cap, cur, h1, h3, h4⟩
  · exact .inl h2
  · exact .inr ⟨g, cap, cur, h1, by omega, h4⟩
end YtkbcplnlehdjfaaGreat
end Go.Proofs

/- A list copied onto nothing: 'append([]T(nil), list...)'. -/
namespace Go.Proofs.YtkbcplnlehdjfaaGreat
open Go.RowKit
theorem add_off (g j : Nat) : (⟨g, 0, none⟩ : Addr).add j = ⟨g, j, none⟩ := by unfold Addr.add; split <;> simp_all
/-- The copy is the call's own, in a new block, or nothing. -/
theorem append_copy {P : Program} (w : World) (t ty e : TypeId) (i : TypeInfo) (z : Value) (size bytes : Nat) (ht : P.underlying t = some (.slice e)) (hi : P.info? e = some i) (hz : i.zero = some z)
  (hsize : i.size = size) (hby : i.bytes = bytes) (hzs : z.cells.size = size) (hsz : 0 < size) (a : Option Addr) (n cap : Nat) (xs : List Value) (h : Row w a xs) (hl : xs.length = n * size) (h1 : ∀ u ∈ xs, u.oneCell' = true)
  (h63 : n ≤ 1048576) (hb : bytes ≤ 1000) :
  ∃ a' cap' w', (Builtin.append_ #[t, t] ty #[.slice none 0 0, .slice a n cap]).run P w = .ok (.slice a' n cap') w' ∧ w'.ownsRow w.heap.size e size (.slice a' n cap') n xs ∧ w.grownBy w' none := by
 cases a with
 | none =>
  have hx : xs = [] := by
   cases xs with
   | nil => rfl
   | cons u r =>
    obtain ⟨g, e', _⟩ := h 0 u rfl
    cases e'
  subst hx
  have hn : n = 0 := by
   cases n with
   | zero => rfl
   | succ n => simp only [List.length_nil, Nat.succ_mul] at hl; omega
  subst hn
  refine ⟨none, 0, w, ?_, World.ownsRow_nil _ _ _ _, ⟨rfl, rfl, rfl, Nat.le_refl _, fun _ _ _ => rfl⟩⟩
  simp [Builtin.append_, run_underlying ht, sizeOf, typeInfo, hi, Builtin.lenOf, Builtin.firstCells]
 | some ad =>
  have hnews : ∀ j u, xs[j]? = some u → w.cell? (ad.add j) = some u := fun j u hu => by
   obtain ⟨g, e', hc⟩ := h j u hu
   cases e'
   rw [add_off]
   exact hc
  obtain ⟨v', w', hr, ho, hg, -, -⟩ := run_append_own_at (P := P) w w.heap.size t ty e i z size bytes ht hi hz hsize hby hzs hsz (.slice none 0 0) 0 [] (World.ownsRow_nil _ _ _ _) ad n cap xs hl hnews h1 (by unfold maxLen; omega) (by rw [Nat.zero_add]; have := Nat.mul_le_mul h63 hb; omega) (Nat.le_refl _)
  simp only [Nat.zero_add, List.nil_append] at ho
  obtain ⟨a', cap', rfl, -⟩ := own_form ho
  exact ⟨a', cap', w', hr, ho, hg⟩
end Go.Proofs.YtkbcplnlehdjfaaGreat
