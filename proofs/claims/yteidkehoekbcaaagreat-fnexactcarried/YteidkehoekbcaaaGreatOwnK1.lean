/- What the proof leans on, part 1. -/
import Derived.Test.YteidkehoekbcaaaGreatProg
import Derived.Handy
import Derived.Deep.OwnRows
import Derived.BigQuiet
import Derived.Deep.RegionHeld
set_option maxRecDepth 100000
set_option maxHeartbeats 8000000
open Array renaming getElem?_eq_some_iff->J2
open Bool renaming and_eq_true->J7,or_eq_true->Kb
open Go renaming mem_ready->Qf,ready_mono->Qe,wpOp_mono->Qd
open Go.Act renaming put_comm->Qc
open Go.AllReadyH renaming cons->KX,nil->KY
open Go.Proofs.Tryz renaming prog->J3
open Go.RowKit.Below renaming refl->Kp
open Nat renaming le_refl->Ki,zero_le->Ky
open Option renaming getD_some->Ka,map_some->J9

namespace Go.Proofs.YteidkehoekbcaaaGreat
section
open Go.RowKit
theorem _root_.Go.RowKit.Hid.I {p:Prop} (h:Hid p):p:=h
theorem PU {w:World} {o:Obj} {i:Nat} (h:i < w.heap.size):(w.alloc o).heap[i]? =w.heap[i]? :=((Kp _ w).alloc (Ki _) o).block i h
def cv (n lo hi:Int):Bool:=decide (lo≤n) && decide (n≤hi)
def szOf (left:Int) (len:Nat):Int:=if left < len then -1 else left - len
theorem Bj {left:Int} {len:Nat} (h:left < len):szOf left len= -1:=if_pos h
theorem AQ {left:Int} {len:Nat} (h:(len:Int)≤left):szOf left len=left - len:=if_neg (by omega)
theorem eB {n lo hi:Int} (h1:lo≤n) (h2:n≤hi):cv n lo hi=true:=by simp [cv,h1,h2]
theorem mA {n lo hi:Int} (h:n < lo):cv n lo hi=false:=by simp [cv]; omega
theorem kR {n lo hi:Int} (h:hi < n):cv n lo hi=false:=by simp [cv]; omega
theorem al {a b:Bool} (h:a=b):Ending.returned (.bool a)= .returned (.bool b):=by rw [h]
theorem ck {k:IntKind} {a b:Int} (h:a=b):Ending.returned (.int k a)= .returned (.int k b):=by rw [h]
def lT (w:World) (g len:Nat) (Z:Nat→Int):Prop:=g < w.heap.size∧ ∀ j,j < len * 3→w.cell? ⟨g,j,none⟩=some (.int .i64 (Z j))
theorem lT.lt {w:World} {g len:Nat} {Z:Nat→Int} (h:lT w g len Z):g < w.heap.size:=h.1
theorem lT.cell {w:World} {g len:Nat} {Z:Nat→Int} (h:lT w g len Z) {i:Nat} (hi:i < len * 3):w.cell? ⟨g,i,none⟩=some (.int .i64 (Z i)):=h.2 i hi
theorem lT.of_block {w w':World} {g len:Nat} {Z:Nat→Int} (h:lT w g len Z) (e:w'.heap[g]? =w.heap[g]?):lT w' g len Z:=by
 refine ⟨?_,fun j hj=>(World.cell?_of_block (w:=w) e).trans (h.2 j hj)⟩;have h1:=h.1;rw [Array.getElem?_eq_getElem h1] at e;exact (J2.1 e).1
theorem lT.alloc {w:World} {g len:Nat} {Z:Nat→Int} (h:lT w g len Z) (o:Obj):lT (w.alloc o) g len Z:=h.of_block (Below.heap_alloc w o g h.1)
theorem dx (n lo hi:Int) (w:World):
  Calls J3 34 #[.int .i64 n,.int .i64 lo,.int .i64 hi] w fun e w'=>e= .returned (.bool (cv n lo hi))∧w'=w:=by
 by_cases h1:lo≤n
 ·by_cases h2:n≤hi
  ·go_enter Tryz.func34,Tryz.ntmps34
   go_wp2;go_ret;exact ⟨al (eB h1 h2).symm,rfl⟩
  ·go_enter Tryz.func34,Tryz.ntmps34
   go_wp2;go_ret;exact ⟨al (kR (by omega)).symm,rfl⟩
 ·go_enter Tryz.func34,Tryz.ntmps34
  go_wp2;go_ret;exact ⟨al (mA (by omega)).symm,rfl⟩
end
section
open Go
section
variable {P : Program} {ops : Array Oper} {Q : Exit → Act → World → Prop} {md : Region.Mode} {S : World → Prop}
def Comes (P : Program) (S : World → Prop) (v : Value) : Result Next → Prop
  | .ok (.value u) w' => u = v ∧ S w'
  | .ok .skip w' => v = undef ∧ S w'
  | .ok (.enter f args) w' => Calls P f args w' (fun e w'' => e = .returned v ∧ S w'')
  | _ => False
def Does (P : Program) (ops : Array Oper) (S : World → Prop) (o : Oper) (v : Value) (a : Act) : Prop :=
  (Region.wanted o (yielded ops a.tmps) = true ∧ ∀ w, S w → Comes P S v ((execOp a.eval o).run P w)) ∨
  (Region.wanted o (yielded ops a.tmps) = false ∧ v = undef)
theorem Does.of_same {o : Oper} {v : Value} {a a' : Act} (hy : Does P ops S o v a) (he : execOp a'.eval o = execOp a.eval o)
    (hw : Region.wanted o (yielded ops a'.tmps) = Region.wanted o (yielded ops a.tmps)) : Does P ops S o v a' := by
  unfold Does at *;rw [he, hw];exact hy
theorem Does.wpOp {i : Nat} {o : Oper} {v : Value} {a : Act} (hi : ops[i]? = some o) (hy : Does P ops S o v a)
    {K : Act → World → Prop} {w : World} (hS : S w) (h : ∀ w', S w' → K (a.put o.dst v) w') : wpOp P ops Q i K a w := by
  unfold Go.wpOp;simp only [hi];rcases hy with ⟨hw, hv⟩ | ⟨hw, rfl⟩
  · simp only [hw, if_true]
    refine .inl ?_;have hc := hv w hS;unfold Oper.wp;generalize (execOp a.eval o).run P w = r at *;cases r with
    | ok n w' =>
      cases n <;> simp only [Comes, Oper.upon] at hc ⊢
      case value u =>
        obtain ⟨rfl, GH⟩ := hc;exact h _ GH
      case skip =>
        obtain ⟨rfl, GH⟩ := hc;exact h _ GH
      case enter f args =>
        refine Calls.mono hc fun e w'' he => ?_
        obtain ⟨rfl, GH⟩ := he;exact h _ GH
    | halt x w' => exact hc.elim
  · simp only [hw, Bool.false_eq_true, if_false]
    exact h _ hS
theorem xH {j : Nat} {oi oj : Oper} {v : Value} (hj : ops[j]? = some oj) (hap : oi.apart ops oj = true)
    (hsi : ∀ cs b, oi.op ≠ .select cs b) (hsj : ∀ cs b, oj.op ≠ .select cs b)
    (hQ : ∀ c a w, Q (.panic c) (a.put oi.dst v) w → Q (.panic c) a w) {K : Act → World → Prop} {a : Act} {w : World}
    (hy : Does P ops S oi v a) (h : wpOp P ops Q j K (a.put oi.dst v) w) :
    wpOp P ops Q j (fun a' w' => Does P ops S oi v a' ∧ K (a'.put oi.dst v) w') a w := by
  obtain ⟨h1, h2, h3⟩ := Oper.apart_spec hap;have keep : ∀ (a : Act), Does P ops S oi v a → ∀ u, Does P ops S oi v (a.put oj.dst u) := fun a hy u =>
    hy.of_same (execOp_put oi hsi a oj.dst u h3) (wanted_put oi a oj.dst u h3)
  have keepD : ∀ d, Does P ops S oi v { a with defers := d :: a.defers } := fun d => hy.of_same rfl rfl
  unfold wpOp at *;simp only [hj] at *;rw [wanted_put oj a oi.dst v h1] at h
  split
  · rename_i hw
    simp only [hw, if_true] at h;rcases h with h | ⟨hasks, hlets⟩
    case inr => exact .inr ⟨by unfold Oper.asks at *; rw [execOp_put oj hsj a oi.dst v h1] at hasks; exact hasks, hlets⟩
    refine .inl ?_;unfold Oper.wp at *;rw [execOp_put oj hsj a oi.dst v h1] at h;generalize (execOp a.eval oj).run P w = r at *;cases r with
    | ok n w' =>
      cases n <;> simp only [Oper.upon] at h ⊢
      case value u => exact ⟨keep a hy u, by rw [← Qc a v u h2]; exact h⟩
      case skip => exact ⟨keep a hy _, by rw [← Qc a v undef h2]; exact h⟩
      case defer d =>
        refine ⟨keep _ (keepD d) _, ?_⟩;rw [← Qc _ v undef h2, ← Act.put_defers];exact h
      case enter f args =>
        refine Calls.mono h fun e w'' he => ?_
        cases e with
        | returned u => exact ⟨keep a hy u, by rw [← Qc a v u h2]; exact he⟩
        | panicked c => exact hQ _ _ _ he
        | outgrown => exact he
      case row row args => exact Rows.mono h fun u w'' he => ⟨keep a hy u, by rw [← Qc a v u h2]; exact he⟩
    | halt x w' =>
      cases x <;> simp only [Oper.upon] at h ⊢
      case panic u => exact hQ _ _ _ h
  · rename_i hw
    simp only [hw] at h;exact ⟨keep a hy _, by rw [← Qc a v undef h2]; exact h⟩
def gR (P : Program) (md : Region.Mode) (ops : Array Oper) (Q : Exit → Act → World → Prop) (S : World → Prop) : Nat → Array Bool → Act → Prop
  | 0, RV, a => Region.ready md ops RV = [] ∧ ∀ w, S w → Q .normal a w
  | fuel + 1, RV, a =>
    (Region.ready md ops RV = [] → ∀ w, S w → Q .normal a w) ∧
    ∀ i ∈ Region.ready md ops RV, ∀ w, S w → wpOp P ops Q i (fun a' w' => S w' ∧ gR P md ops Q S fuel (RV.setIfInBounds i true) a') a w
theorem pW : ∀ (fuel : Nat) (RV : Array Bool) (a : Act) (w : World), S w → gR P md ops Q S fuel RV a → wpAny P md ops Q fuel RV a w
  | 0, _, _, w, hS, h => ⟨h.1, h.2 w hS⟩
  | fuel + 1, _, _, w, hS, h => ⟨fun h0 => h.1 h0 w hS, fun i hi => Qd (fun a' w' h' => pW fuel _ a' w' h'.1 h'.2) (h.2 i hi w hS)⟩
theorem yd {i : Nat} {oi : Oper} {v : Value} (hi : ops[i]? = some oi) (hsel : ∀ (j : Nat) (o : Oper) cs b, ops[j]? = some o → o.op ≠ .select cs b)
    (hQ : ∀ c a w, Q (.panic c) (a.put oi.dst v) w → Q (.panic c) a w) :
    ∀ (fuel : Nat) (RV : Array Bool) (a : Act),
      (∀ j oj, ops[j]? = some oj → j ≠ i → RV.getD j true = false → (∀ e ∈ oj.after, Region.binds md e = true → e.on ≠ i) → oi.apart ops oj = true) →
      i ∈ Region.ready md ops RV → Does P ops S oi v a →
      gR P md ops Q S fuel (RV.setIfInBounds i true) (a.put oi.dst v) → gR P md ops Q S (fuel + 1) RV a := by
  intro fuel
  induction fuel with
  | zero =>
    intro RV a _ hr hy H;refine ⟨fun h => (by rw [h] at hr; cases hr), fun j hj w hS => ?_⟩;by_cases hji : j = i
    · subst hji
      exact hy.wpOp hi hS fun w' GH => ⟨GH, H⟩
    · have := Qe hj hji
      rw [H.1] at this;cases this
  | succ fuel ih =>
    intro RV a hfree hr hy H;refine ⟨fun h => (by rw [h] at hr; cases hr), fun j hj w hS => ?_⟩;by_cases hji : j = i
    · subst hji
      exact hy.wpOp hi hS fun w' GH => ⟨GH, H⟩
    · have h1 := H.2 j (Qe hj hji) w hS
      obtain ⟨hjun, oj, hoj, hall⟩ := Qf.1 hj;have hnot : ∀ e ∈ oj.after, Region.binds md e = true → e.on ≠ i := fun e he hb heq => by
        have h1 := hall e he hb;have h0 := (Qf.1 hr).1;rw [heq] at h1;rcases Nat.lt_or_ge i RV.size with h' | h'
        · simp [h'] at h0 h1; rw [h0] at h1; cases h1
        · simp [Array.getElem?_eq_none h'] at h1
      have h2 := xH hoj (hfree j oj hoj hji hjun hnot) (fun cs b => hsel i oi cs b hi) (fun cs b => hsel j oj cs b hoj) hQ hy h1;have hfree' : ∀ k ok, ops[k]? = some ok → k ≠ i → (RV.setIfInBounds j true).getD k true = false →
          (∀ e ∈ ok.after, Region.binds md e = true → e.on ≠ i) → oi.apart ops ok = true := fun k ok hk hki hun hno => by
        refine hfree k ok hk hki ?_ hno;by_cases hjk : j = k
        · subst hjk; exact hjun
        · rw [getD_set_ne true hjk] at hun; exact hun
      refine Qd (fun a' w' h3 => ⟨h3.2.1, ih (RV.setIfInBounds j true) a' hfree' (Qe hr (Ne.symm hji)) h3.1 ?_⟩) h2;rw [Array.setIfInBounds_comm _ _ hji];exact h3.2.2
theorem Fq {i : Nat} {oi : Oper} {v : Value} {fuel : Nat} {RV : Array Bool} {a : Act} (hi : ops[i]? = some oi)
    (hs : Region.noSelect ops = true) (hf : Region.free md ops RV i = true) (hr : (Region.ready md ops RV).contains i = true)
    (hQ : ∀ c a w, Q (.panic c) (a.put oi.dst v) w → Q (.panic c) a w) (hy : Does P ops S oi v a)
    (h : gR P md ops Q S fuel (RV.setIfInBounds i true) (a.put oi.dst v)) : gR P md ops Q S (fuel + 1) RV a :=
  yd hi (Region.noSelect_spec hs) hQ fuel RV a (Region.free_spec hi hf) (by simpa using hr) hy h
theorem IK {i : Nat} (d : Option Tmp) {oi : Oper} {v : Value} {fuel : Nat} {RV : Array Bool} {a : Act} (hi : ops[i]? = some oi) (hd : oi.dst = d)
    (hs : Region.noSelect ops = true) (hf : Region.free md ops RV i = true) (hr : (Region.ready md ops RV).contains i = true)
    (hQ : ∀ c a w, Q (.panic c) (a.put d v) w → Q (.panic c) a w) (hy : Does P ops S oi v a)
    (h : gR P md ops Q S fuel (RV.setIfInBounds i true) (a.put d v)) : gR P md ops Q S (fuel + 1) RV a := by
  subst hd;exact Fq hi hs hf hr hQ hy h
def Jj (md : Region.Mode) (ops : Array Oper) (RV : Array Bool) (i : Nat) (oi : Oper) (d : Option Tmp) : Bool := decide (oi.dst = d) && Region.noSelect ops && Region.free md ops RV i && (Region.ready md ops RV).contains i
theorem tm (i : Nat) (d : Option Tmp) {oi : Oper} {v : Value} {fuel : Nat} {RV : Array Bool} {a : Act} (hi : ops[i]? = some oi) (hc : Jj md ops RV i oi d = true)
    (hQ : ∀ c a w, Q (.panic c) (a.put d v) w → Q (.panic c) a w) (hy : Does P ops S oi v a)
    (h : gR P md ops Q S fuel (RV.setIfInBounds i true) (a.put d v)) : gR P md ops Q S (fuel + 1) RV a := by
  simp only [Jj, J7, decide_eq_true_eq] at hc;exact IK d hi hc.1.1.1 hc.1.1.2 hc.1.2 hc.2 hQ hy h
theorem pt (a : Act) (d : Tmp) (v : Value) : a.put (some d) v = { a with tmps := a.tmps.setIfInBounds d v } := rfl
theorem sb {α : Type} {l : List α} {i : Nat} {x : α} : l.toArray.setIfInBounds i x = (l.set i x).toArray := by simp
theorem s0 {α : Type} {l : List α} {x y : α} : (x :: l).set 0 y = y :: l := rfl
theorem s1 {α : Type} {l : List α} {x y : α} {n : Nat} : (x :: l).set (n + 1) y = x :: l.set n y := rfl
theorem bk {RV : Array Bool} {a : Act} (hr : Region.ready md ops RV = []) (h : ∀ w, S w → Q .normal a w) : ∀ fuel, gR P md ops Q S fuel RV a
  | 0 => ⟨hr, h⟩
  | _ + 1 => ⟨fun _ => h, by rw [hr]; simp⟩
theorem aT {id : Nat} {a : Act} {w : World} (S : World → Prop) (hm : P.follows .mixedOrders = true) (hS : S w.drew)
    (h : gR P .any ops Q S ops.size (Array.replicate ops.size false) a) : (Code.region id ops true).wp P Q a w :=
  wp_region_any hm (pW _ _ _ _ hS h)
/-! ### A region whose last operation may turn what the others keep -/
def qe (md : Region.Mode) (ops : Array Oper) (RV : Array Bool) : Prop := ∀ (j : Nat) (o : Oper), ops[j]? = some o → RV.getD j false = true → ∀ e ∈ o.after, Region.binds md e = true → RV.getD e.on false = true
def tM (md : Region.Mode) (ops : Array Oper) (RV : Array Bool) : Bool :=
  (List.range ops.size).all fun j => !RV.getD j false || ((ops[j]?).map fun o => o.after.all fun e => !Region.binds md e || RV.getD e.on false).getD true
theorem yp {RV : Array Bool} (h : tM md ops RV = true) : qe md ops RV := fun j o ho hl e he hb => by
  simp only [tM, List.all_eq_true, List.mem_range] at h;have h1 := h j (J2.1 ho).1;rw [hl, ho] at h1;simp only [Bool.not_true, Bool.false_or, J9, Ka, Array.all_eq_true_iff_forall_mem, Kb, Bool.not_eq_true'] at h1;rcases h1 e he with h2 | h2
  · rw [hb] at h2; cases h2
  · exact h2
theorem qe.set {RV : Array Bool} {j : Nat} (h : qe md ops RV) (hj : j ∈ Region.ready md ops RV) : qe md ops (RV.setIfInBounds j true) := fun k o ho hl e he hb => by
  obtain ⟨_, o', ho', hall⟩ := Qf.1 hj;by_cases hjk : j = k
  · subst hjk
    rw [ho'] at ho;cases ho;exact getD_set_true (hall e he hb)
  · rw [getD_set_ne false hjk] at hl
    exact getD_set_true (h k o ho hl e he hb)
def preB (md : Region.Mode) (ops : Array Oper) : Nat → Nat → Nat → Bool
  | 0, x, i => x == i
  | n + 1, x, i => x == i || ((ops[x]?).map fun o => o.after.any fun e => Region.binds md e && preB md ops n e.on i).getD false
theorem vi {RV : Array Bool} (hc : qe md ops RV) {i : Nat} : ∀ (n x : Nat), RV.getD x false = true → preB md ops n x i = true → RV.getD i false = true
  | 0, x, hx, h => by
    have e : x = i := by simpa [preB] using h
    rw [← e];exact hx
  | n + 1, x, hx, h => by
    simp only [preB, Kb, beq_iff_eq] at h;rcases h with e | h
    · rw [← e]
      exact hx
    · cases ho : ops[x]? with
      | none => rw [ho] at h; simp at h
      | some o =>
        rw [ho] at h;simp only [J9, Ka, Array.any_eq_true'] at h;obtain ⟨e, he, h2⟩ := h;simp only [J7] at h2;exact vi hc n e.on (hc x o ho hx e he h2.1) h2.2
theorem rV {RV : Array Bool} (hc : qe md ops RV) {i L n : Nat} (hp : preB md ops n L i = true) (hne : ¬ i = L) (hi : RV.getD i true = false) : L ∉ Region.ready md ops RV := fun hL => by
  obtain ⟨_, o, ho, hall⟩ := Qf.1 hL;have hi' : ¬ RV.getD i false = true := fun h => by
    rcases Nat.lt_or_ge i RV.size with h' | h'
    · simp [h'] at h hi
      rw [h] at hi;cases hi
    · simp [Array.getElem?_eq_none h'] at h
  cases n with
  | zero => exact hne (by have e : L = i := by simpa [preB] using hp
                          exact e.symm)
  | succ n =>
    simp only [preB, Kb, beq_iff_eq] at hp;rcases hp with e | h
    · exact hne e.symm
    · rw [ho] at h
      simp only [J9, Ka, Array.any_eq_true'] at h;obtain ⟨e, he, h2⟩ := h;simp only [J7] at h2;exact hi' (vi hc n e.on (hall e he h2.1) h2.2)
def kS (P : Program) (md : Region.Mode) (ops : Array Oper) (Q : Exit → Act → World → Prop) (S : World → Prop) (L : Nat) : Nat → Array Bool → Act → Prop
  | 0, _, _ => False
  | fuel + 1, RV, a =>
    Region.ready md ops RV ≠ [] ∧
    ∀ i ∈ Region.ready md ops RV, ∀ w, S w →
      (i = L ∧ Region.ready md ops (RV.setIfInBounds L true) = [] ∧ wpOp P ops Q L (fun a' w' => Q .normal a' w') a w) ∨
      (i ≠ L ∧ wpOp P ops Q i (fun a' w' => S w' ∧ kS P md ops Q S L fuel (RV.setIfInBounds i true) a') a w)
theorem pM {L : Nat} : ∀ (fuel : Nat) (RV : Array Bool) (a : Act) (w : World), S w → kS P md ops Q S L fuel RV a → wpAny P md ops Q fuel RV a w
  | 0, _, _, _, _, h => h.elim
  | fuel + 1, RV, a, w, hS, h => ⟨fun h0 => absurd h0 h.1, fun i hi => by
    rcases h.2 i hi w hS with ⟨rfl, h1, h2⟩ | ⟨_, h2⟩
    · exact Qd (fun a' w' h' => wpAny_done h1 h' fuel) h2
    · exact Qd (fun a' w' h' => pM fuel _ a' w' h'.1 h'.2) h2⟩
theorem yw {L i n : Nat} {oi : Oper} {v : Value} (hi : ops[i]? = some oi) (hsel : ∀ (j : Nat) (o : Oper) cs b, ops[j]? = some o → o.op ≠ .select cs b)
    (hQ : ∀ c a w, Q (.panic c) (a.put oi.dst v) w → Q (.panic c) a w) (hp : preB md ops n L i = true) (hne : ¬ i = L) :
    ∀ (fuel : Nat) (RV : Array Bool) (a : Act), qe md ops RV →
      (∀ j oj, ops[j]? = some oj → j ≠ i → RV.getD j true = false → (∀ e ∈ oj.after, Region.binds md e = true → e.on ≠ i) → oi.apart ops oj = true) →
      i ∈ Region.ready md ops RV → Does P ops S oi v a →
      kS P md ops Q S L fuel (RV.setIfInBounds i true) (a.put oi.dst v) → kS P md ops Q S L (fuel + 1) RV a := by
  intro fuel
  induction fuel with
  | zero => intro RV a _ _ _ _ H; exact H.elim
  | succ fuel ih =>
    intro RV a hcl hfree hr hy H;refine ⟨fun h => (by rw [h] at hr; cases hr), fun j hj w hS => ?_⟩;have hjL : ¬ j = L := fun e => by
      subst e;exact rV hcl hp hne (Qf.1 hr).1 hj
    refine .inr ⟨hjL, ?_⟩;by_cases hji : j = i
    · subst hji
      exact hy.wpOp hi hS fun w' GH => ⟨GH, H⟩
    · have h1 := (H.2 j (Qe hj hji) w hS).resolve_left (fun h => hjL h.1)
      obtain ⟨hjun, oj, hoj, hall⟩ := Qf.1 hj;have hnot : ∀ e ∈ oj.after, Region.binds md e = true → e.on ≠ i := fun e he hb heq => by
        have h1 := hall e he hb;have h0 := (Qf.1 hr).1;rw [heq] at h1;rcases Nat.lt_or_ge i RV.size with h' | h'
        · simp [h'] at h0 h1; rw [h0] at h1; cases h1
        · simp [Array.getElem?_eq_none h'] at h1
      have h2 := xH hoj (hfree j oj hoj hji hjun hnot) (fun cs b => hsel i oi cs b hi) (fun cs b => hsel j oj cs b hoj) hQ hy h1.2;have hfree' : ∀ k ok, ops[k]? = some ok → k ≠ i → (RV.setIfInBounds j true).getD k true = false →
          (∀ e ∈ ok.after, Region.binds md e = true → e.on ≠ i) → oi.apart ops ok = true := fun k ok hk hki hun hno => by
        refine hfree k ok hk hki ?_ hno;by_cases hjk : j = k
        · subst hjk; exact hjun
        · rw [getD_set_ne true hjk] at hun; exact hun
      refine Qd (fun a' w' h3 => ⟨h3.2.1, ih (RV.setIfInBounds j true) a' (hcl.set hj) hfree' (Qe hr (Ne.symm hji)) h3.1 ?_⟩) h2;rw [Array.setIfInBounds_comm _ _ hji];exact h3.2.2
theorem I1 {L i : Nat} (n : Nat) (d : Option Tmp) {oi : Oper} {v : Value} {fuel : Nat} {RV : Array Bool} {a : Act} (hi : ops[i]? = some oi) (hd : oi.dst = d)
    (hs : Region.noSelect ops = true) (hf : Region.free md ops RV i = true) (hr : (Region.ready md ops RV).contains i = true) (hp : (preB md ops n L i && (i != L) && tM md ops RV) = true)
    (hQ : ∀ c a w, Q (.panic c) (a.put d v) w → Q (.panic c) a w) (hy : Does P ops S oi v a)
    (h : kS P md ops Q S L fuel (RV.setIfInBounds i true) (a.put d v)) : kS P md ops Q S L (fuel + 1) RV a := by
  subst hd;simp only [J7, bne_iff_ne, ne_eq] at hp;exact yw hi (Region.noSelect_spec hs) hQ hp.1.1 hp.1.2 fuel RV a (yp hp.2) (Region.free_spec hi hf) (by simpa using hr) hy h
def lsB (md : Region.Mode) (ops : Array Oper) (RV : Array Bool) (i L n : Nat) (oi : Oper) (d : Option Tmp) : Bool := Jj md ops RV i oi d && (preB md ops n L i && (i != L) && tM md ops RV)
theorem ls {L : Nat} (i n : Nat) (d : Option Tmp) {oi : Oper} {v : Value} {fuel : Nat} {RV : Array Bool} {a : Act} (hi : ops[i]? = some oi) (hc : lsB md ops RV i L n oi d = true)
    (hQ : ∀ c a w, Q (.panic c) (a.put d v) w → Q (.panic c) a w) (hy : Does P ops S oi v a)
    (h : kS P md ops Q S L fuel (RV.setIfInBounds i true) (a.put d v)) : kS P md ops Q S L (fuel + 1) RV a := by
  simp only [lsB, Jj, J7, decide_eq_true_eq] at hc;exact I1 n d hi hc.1.1.1.1 hc.1.1.1.2 hc.1.1.2 hc.1.2 (by simp only [J7]; exact hc.2) hQ hy h
theorem fL {L : Nat} {oL : Oper} {fuel : Nat} {RV : Array Bool} {a : Act} (hi : ops[L]? = some oL) (hr : Region.ready md ops RV = [L]) (hr' : Region.ready md ops (RV.setIfInBounds L true) = [])
    (hw : Region.wanted oL (yielded ops a.tmps) = true) (h : ∀ w, S w → oL.wp P a w (fun a' w' => Q .normal a' w') Q) : kS P md ops Q S L (fuel + 1) RV a := by
  refine ⟨by rw [hr]; simp, fun i hi' w hS => ?_⟩;rw [hr] at hi';have e : i = L := by simpa using hi'
  refine .inl ⟨e, hr', ?_⟩;unfold wpOp;simp only [hi, hw, if_true];exact .inl (h w hS)
theorem eD {id : Nat} {a : Act} {w : World} (S : World → Prop) (L : Nat) (hm : P.follows .mixedOrders = true) (hS : S w.drew)
    (h : kS P .any ops Q S L ops.size (Array.replicate ops.size false) a) : (Code.region id ops true).wp P Q a w :=
  wp_region_any hm (pM _ _ _ _ hS h)
theorem np {o : Oper} {a : Act} (h : Region.wanted o (yielded ops a.tmps) = false) : Does P ops S o undef a := .inr ⟨h, rfl⟩
theorem bV {o : Oper} {v : Value} {a : Act} (hw : Region.wanted o (yielded ops a.tmps) = true) (h : ∀ w, S w → (execOp a.eval o).run P w = .ok (.value v) w) : Does P ops S o v a :=
  .inl ⟨hw, fun w hS => by rw [h w hS]; exact ⟨rfl, hS⟩⟩
theorem iZ {o : Oper} {v : Value} {a : Act} {f : FuncId} {args : Array Value} (hw : Region.wanted o (yielded ops a.tmps) = true) (h : ∀ w, S w → (execOp a.eval o).run P w = .ok (.enter f args) w)
    (hc : ∀ w, S w → Calls P f args w (fun e w' => e = .returned v ∧ S w')) : Does P ops S o v a :=
  .inl ⟨hw, fun w hS => by rw [h w hS]; exact hc w hS⟩
end
end
section
open Go.RowKit
def gH (c:UInt8):Bool:=decide (32≤(c.toNat:Int)) && decide ((c.toNat:Int)≤126) && !decide ((c.toNat:Int)=59)
def bw (s:ByteArray):Bool:=decide (s.size≤20) && s.data.toList.all gH
theorem Et (s:ByteArray) (k:Nat) (h:k < s.size):s.data.toList.take (k+1)=s.data.toList.take k ++ [s[k]] :=by
 rw [List.take_succ_eq_append_getElem (by simpa using h)]; rfl
theorem Bv {s:ByteArray} {k:Nat} (h:k < s.size) (ha:(s.data.toList.take k).all gH=true) (hb:gH s[k] =true):(s.data.toList.take (k+1)).all gH=true:=by
 rw [Et s k h,List.all_append,ha]; simp [hb]
theorem D7 {s:ByteArray} {k:Nat} (h:k < s.size) (hb:gH s[k] =false):s.data.toList.all gH=false:=by
 rw [List.all_eq_false];exact ⟨s[k], by rw [show s[k] = s.data.toList[k]'(by simpa using h) from rfl]; exact List.getElem_mem _, by simp [hb]⟩
theorem BA (s:ByteArray) {k:Nat} (h:s.size≤k):s.data.toList.take k=s.data.toList:=List.take_of_length_le (by simpa using h)
theorem xo {c:UInt8} (h:(c.toNat:Int) < 32):gH c=false:=by simp [gH]; omega
theorem uO {c:UInt8} (h:126 < (c.toNat:Int)):gH c=false:=by simp [gH]; omega
theorem uj {c:UInt8} (h:(c.toNat:Int)=59):gH c=false:=by simp [gH]; omega
theorem xR {c:UInt8} (h1: ¬ (c.toNat:Int) < 32) (h2: ¬ 126 < (c.toNat:Int)) (h3: ¬ (c.toNat:Int)=59):gH c=true:=by simp [gH]; omega
theorem jC (s:ByteArray) (w:World) (hs:s.size≤1048576):
  Calls J3 140 #[.string s] w fun e w'=>e= .returned (.bool (bw s))∧w'=w:=by
 go_enter Tryz.func140,Tryz.ntmps140
 go_wp2
 go_loop [3] (fun i=> ∃ k:Nat,k≤s.size∧i= .int .i64 k∧(s.data.toList.take k).all gH=true) (fun i=>s.size - (intOf i).toNat)
 case atStart=>exact ⟨0,Ky _,rfl,rfl⟩
 case round=>
  obtain ⟨k,hk,rfl,hall⟩:=hrel;have HA:Hid ((s.data.toList.take k).all gH=true):=hall;clear hall;by_cases hlt:k < s.size
  ·have HY:Hid (gH s[k] =true→(s.data.toList.take (k+1)).all gH=true):=fun h=>Bv hlt HA.I h
   have HX:Hid (gH s[k] =false→bw s=false):=fun h=>by simp [bw,D7 hlt h]
   by_cases h1:(s[k].toNat:Int) < 32
   ·go_wp2
    go_ret;exact ⟨al (HX.I (xo h1)).symm,rfl⟩
   by_cases h2:126 < (s[k].toNat:Int)
   ·go_wp2
    go_ret;exact ⟨al (HX.I (uO h2)).symm,rfl⟩
   by_cases h3:(s[k].toNat:Int)=59
   ·have h3':((s[k].toNat:Int) == 59)=true:=by simp [h3]
    go_wp2;go_ret;exact ⟨al (HX.I (uj h3)).symm,rfl⟩
   have h3':((s[k].toNat:Int) == 59)=false:=by simp [h3]
   have HB:Hid (gH s[k] =true):=xR h1 h2 h3;go_wp2
   go_round
   case rel=>exact ⟨k+1,by omega,by go_num,HY.I HB.I⟩
   case measure=>simp [intOf]; omega
  ·have HA':Hid (s.data.toList.all gH=true):=by have:=HA.I; rwa [BA s (by omega)] at this
   go_wp2;go_ret;exact ⟨al (by rw [Bool.eq_iff_iff]; simp [bw,HA'.I]; omega),rfl⟩
theorem iM (s:ByteArray) (w:World) (hs:s.size≤1048576):
  Calls J3 257 #[.string s] w fun e w'=>e= .returned (.bool (bw s))∧w'=w:=by
 by_cases hl:20 < s.size
 ·have hl':(20:Int) < (s.size:Int):=by omega
  go_enter Tryz.func257,Tryz.ntmps257
  go_wp2;go_ret;exact ⟨al (by simp [bw]; intro h; omega),rfl⟩
 ·have hl': ¬ (20:Int) < (s.size:Int):=by omega
  go_enter Tryz.func257,Tryz.ntmps257
  go_wp2
  go_loop [9] (fun i=> ∃ k:Nat,k≤s.size∧i= .int .i64 k∧(s.data.toList.take k).all gH=true) (fun i=>s.size - (intOf i).toNat)
  case atStart=>exact ⟨0,Ky _,rfl,rfl⟩
  case round=>
   obtain ⟨k,hk,rfl,hall⟩:=hrel;have HA:Hid ((s.data.toList.take k).all gH=true):=hall;clear hall;by_cases hlt:k < s.size
   ·have HY:Hid (gH s[k] =true→(s.data.toList.take (k+1)).all gH=true):=fun h=>Bv hlt HA.I h
    have HX:Hid (gH s[k] =false→bw s=false):=fun h=>by simp [bw,D7 hlt h]
    by_cases h1:(s[k].toNat:Int) < 32
    ·go_wp2
     go_ret;exact ⟨al (HX.I (xo h1)).symm,rfl⟩
    by_cases h2:126 < (s[k].toNat:Int)
    ·go_wp2
     go_ret;exact ⟨al (HX.I (uO h2)).symm,rfl⟩
    by_cases h3:(s[k].toNat:Int)=59
    ·have h3':((s[k].toNat:Int) == 59)=true:=by simp [h3]
     go_wp2;go_ret;exact ⟨al (HX.I (uj h3)).symm,rfl⟩
    have h3':((s[k].toNat:Int) == 59)=false:=by simp [h3]
    have HB:Hid (gH s[k] =true):=xR h1 h2 h3;go_wp2
    go_round
    case rel=>exact ⟨k+1,by omega,by go_num,HY.I HB.I⟩
    case measure=>simp [intOf]; omega
   ·have HA':Hid (s.data.toList.all gH=true):=by have:=HA.I; rwa [BA s (by omega)] at this
    have hd:decide (s.size≤20)=true:=by simp; omega
    go_wp2;go_ret;exact ⟨al (by simp only [bw,HA'.I,hd]; rfl),rfl⟩
def xe (K N M:Nat→Int) (S:Nat→ByteArray) (j:Nat):Value:=if j % 4=0 then .int .i64 (K (j / 4)) else if j % 4=1 then .int .i64 (N (j / 4)) else if j % 4=2 then .int .i64 (M (j / 4)) else .string (S (j / 4))
theorem opV_0 (K N M:Nat→Int) (S:Nat→ByteArray) (i:Nat):xe K N M S (i * 4)= .int .i64 (K i):=by
 have e:i * 4 % 4=0:=by omega
 have d:i * 4 / 4=i:=by omega
 simp [xe,d]
theorem opV_1 (K N M:Nat→Int) (S:Nat→ByteArray) (i:Nat):xe K N M S (i * 4+1)= .int .i64 (N i):=by
 have e:(i * 4+1) % 4=1:=by omega
 have d:(i * 4+1) / 4=i:=by omega
 simp [xe,e,d]
theorem opV_2 (K N M:Nat→Int) (S:Nat→ByteArray) (i:Nat):xe K N M S (i * 4+2)= .int .i64 (M i):=by
 have e:(i * 4+2) % 4=2:=by omega
 have d:(i * 4+2) / 4=i:=by omega
 simp [xe,e,d]
theorem opV_3 (K N M:Nat→Int) (S:Nat→ByteArray) (i:Nat):xe K N M S (i * 4+3)= .string (S i):=by
 have e:(i * 4+3) % 4=3:=by omega
 have d:(i * 4+3) / 4=i:=by omega
 simp [xe,e,d]
end
section
open Go
section
variable {P:Program} {md:Region.Mode} {ops:Array Oper} {Q:Exit→Act→World→Prop} {S:World→Prop}
theorem ty {oi:Oper} {v:Value} {fuel:Nat} {RV:Array Bool} {a:Act} (d:Option Tmp) (hi:ops[ops.size - (fuel+1)]? =some oi) (_hd:oi.dst=d) (hc:Jj md ops RV (ops.size - (fuel+1)) oi d=true)
  (hQ: ∀ c a w,Q (.panic c) (a.put d v) w→Q (.panic c) a w) (hy:Does P ops S oi v a)
  (h:gR P md ops Q S fuel (RV.setIfInBounds (ops.size - (fuel+1)) true) (a.put d v)):gR P md ops Q S (fuel+1) RV a:=tm (ops.size - (fuel+1)) d hi hc hQ hy h
theorem ly {L:Nat} (n:Nat) {oi:Oper} {v:Value} {fuel:Nat} {RV:Array Bool} {a:Act} (d:Option Tmp) (hi:ops[ops.size - (fuel+1)]? =some oi) (_hd:oi.dst=d) (hc:lsB md ops RV (ops.size - (fuel+1)) L n oi d=true)
  (hQ: ∀ c a w,Q (.panic c) (a.put d v) w→Q (.panic c) a w) (hy:Does P ops S oi v a)
  (h:kS P md ops Q S L fuel (RV.setIfInBounds (ops.size - (fuel+1)) true) (a.put d v)):kS P md ops Q S L (fuel+1) RV a:=ls (ops.size - (fuel+1)) n d hi hc hQ hy h
theorem yl {oi:Oper} {v:Value} {fuel:Nat} {RV:Array Bool} {a:Act} {d:Tmp} (hy: ∀ w,S w→(execOp a.eval oi).run P w= .ok (.value v) w)
  (h:gR P md ops Q S fuel (RV.setIfInBounds (ops.size - (fuel+1)) true) (a.put (some d) v)) (hi:ops[ops.size - (fuel+1)]? =some oi:=by rfl) (_hd:oi.dst=some d:=by rfl) (hc:Jj md ops RV (ops.size - (fuel+1)) oi (some d)=true:=by kernel_rfl)
  (hQ: ∀ c a w,Q (.panic c) (a.put (some d) v) w→Q (.panic c) a w:=by exact fun _ _ _ h=>h) (hw:Region.wanted oi (yielded ops a.tmps)=true:=by kernel_rfl):gR P md ops Q S (fuel+1) RV a:=tm (ops.size - (fuel+1)) (some d) hi hc hQ (bV hw hy) h
theorem PI {oi:Oper} {v:Value} {fuel:Nat} {RV:Array Bool} {a a':Act} {d:Tmp} (h:gR P md ops Q S fuel (RV.setIfInBounds (ops.size - (fuel+1)) true) a')
  (hi:ops[ops.size - (fuel+1)]? =some oi:=by rfl) (hd:oi.dst=some d:=by rfl) (hy: ∀ w,S w→(execOp a.eval oi).run P w= .ok (.value v) w:=by intro w0 hS0; go_simp; try with_reducible rfl) (hc:Jj md ops RV (ops.size - (fuel+1)) oi (some d)=true:=by kernel_rfl)
  (hQ: ∀ c a w,Q (.panic c) (a.put (some d) v) w→Q (.panic c) a w:=by exact fun _ _ _ h=>h) (hw:Region.wanted oi (yielded ops a.tmps)=true:=by kernel_rfl) (ha:a.put (some d) v=a':=by simp only [pt,sb,s0,s1]; rfl):gR P md ops Q S (fuel+1) RV a:=
 yl hy (by rw [ha]; exact h) hi hd hc hQ hw
theorem nl {oi:Oper} {fuel:Nat} {RV:Array Bool} {a:Act} {d:Tmp}
  (h:gR P md ops Q S fuel (RV.setIfInBounds (ops.size - (fuel+1)) true) (a.put (some d) undef)) (hi:ops[ops.size - (fuel+1)]? =some oi:=by rfl) (_hd:oi.dst=some d:=by rfl) (hc:Jj md ops RV (ops.size - (fuel+1)) oi (some d)=true:=by kernel_rfl)
  (hQ: ∀ c a w,Q (.panic c) (a.put (some d) undef) w→Q (.panic c) a w:=by exact fun _ _ _ h=>h) (hw:Region.wanted oi (yielded ops a.tmps)=false:=by kernel_rfl):gR P md ops Q S (fuel+1) RV a:=tm (ops.size - (fuel+1)) (some d) hi hc hQ (np hw) h
theorem cl (v:Value) (f:FuncId) (args:Array Value) {oi:Oper} {fuel:Nat} {RV:Array Bool} {a:Act} {d:Tmp} (hy: ∀ w,S w→(execOp a.eval oi).run P w= .ok (.enter f args) w) (hf: ∀ w,S w→Calls P f args w (fun e w'=>e= .returned v∧S w'))
  (h:gR P md ops Q S fuel (RV.setIfInBounds (ops.size - (fuel+1)) true) (a.put (some d) v)) (hi:ops[ops.size - (fuel+1)]? =some oi:=by rfl) (_hd:oi.dst=some d:=by rfl) (hc:Jj md ops RV (ops.size - (fuel+1)) oi (some d)=true:=by kernel_rfl)
  (hQ: ∀ c a w,Q (.panic c) (a.put (some d) v) w→Q (.panic c) a w:=by exact fun _ _ _ h=>h) (hw:Region.wanted oi (yielded ops a.tmps)=true:=by kernel_rfl):gR P md ops Q S (fuel+1) RV a:=tm (ops.size - (fuel+1)) (some d) hi hc hQ (iZ hw hy hf) h
end
end
section
open Go.RowKit
def BX (major fr a l p:Int):Bool:=decide (fr≤a∧a≤major∧1≤l∧l≤major - a∧1≤p∧p≤6)
theorem Tx {major fr a l p:Int} (h:fr≤a∧a≤major∧1≤l∧l≤major - a∧1≤p∧p≤6):BX major fr a l p=true:=by simp only [BX]; exact decide_eq_true h
theorem hG {major fr a l p:Int} (h: ¬ (fr≤a∧a≤major∧1≤l∧l≤major - a∧1≤p∧p≤6)):BX major fr a l p=false:=by simp only [BX]; exact decide_eq_false h
theorem TO {major fr a l p:Int} (h:BX major fr a l p=true):fr≤a∧a≤major∧1≤l∧l≤major - a∧1≤p∧p≤6:=by simpa [BX] using h
theorem C2 (a l p fr major:Int) (w:World) (h0:0≤fr) (h1:1≤major) (h2:major≤1000):
  Calls J3 145 #[.agg #[.int .i64 a,.int .i64 l,.int .i64 p],.int .i64 fr,.int .i64 major] w fun e w'=>e= .returned (.bool (BX major fr a l p))∧Below w.heap.size w w':=by
 by_cases k1:a < fr
 ·go_enter Tryz.func145,Tryz.ntmps145
  go_wp2;go_ret;exact ⟨al (hG (by omega)).symm,by go_grown⟩
 by_cases k2:major < a
 ·go_enter Tryz.func145,Tryz.ntmps145
  go_wp2;go_ret;exact ⟨al (hG (by omega)).symm,by go_grown⟩
 by_cases k3:l < 1
 ·go_enter Tryz.func145,Tryz.ntmps145
  go_wp2;go_ret;exact ⟨al (hG (by omega)).symm,by go_grown⟩
 by_cases k4:major - a < l
 ·go_enter Tryz.func145,Tryz.ntmps145
  go_wp2;go_ret;exact ⟨al (hG (by omega)).symm,by go_grown⟩
 by_cases k5:p < 1
 ·go_enter Tryz.func145,Tryz.ntmps145
  go_wp2;go_ret;exact ⟨al (hG (by omega)).symm,by go_grown⟩
 by_cases k6:6 < p
 ·go_enter Tryz.func145,Tryz.ntmps145
  go_wp2;go_ret;exact ⟨al (by rw [hG (by omega)]; exact decide_eq_false (by omega)),by go_grown⟩
 go_enter Tryz.func145,Tryz.ntmps145
 go_wp2;go_ret;exact ⟨al (Tx (by omega)).symm,by go_grown⟩
def o7 (Z:Nat→Int):Nat→Int
 | 0=>0
 | i+1=>Z (i * 3)+Z (i * 3+1)
def pn (major:Int) (Z:Nat→Int) (i:Nat):Bool:=BX major (o7 Z i) (Z (i * 3)) (Z (i * 3+1)) (Z (i * 3+2))
def nn (major:Int) (len:Nat) (Z:Nat→Int):Bool:=decide (1≤major∧major≤1000∧len≤20∧ ∀ i,i < len→pn major Z i=true)
theorem PE {major:Int} {len:Nat} {Z:Nat→Int} (h:1≤major∧major≤1000∧len≤20∧ ∀ i,i < len→pn major Z i=true):nn major len Z=true:=by simp only [nn]; exact decide_eq_true h
theorem mm {major:Int} {len:Nat} {Z:Nat→Int} (h: ¬ (1≤major∧major≤1000∧len≤20∧ ∀ i,i < len→pn major Z i=true)):nn major len Z=false:=by simp only [nn]; exact decide_eq_false h
theorem A4 {major:Int} {Z:Nat→Int} (k:Nat) (h: ∀ i,i < k→pn major Z i=true):0≤o7 Z k∧(1≤major→o7 Z k≤major):=by
 induction k with
 | zero=>simp [o7]; omega
 | succ k ih=>
  have ih:=ih (fun i hi=>h i (by omega));have hk:=TO (h k (by omega));simp only [o7];omega
theorem Tc (major:Int) (g len cap:Nat) (Z:Nat→Int) (w:World) (hl:len≤1048576) (hz: ∀ j,-9223372036854775808≤Z j∧Z j≤9223372036854775807) (hr:lT w g len Z):
  Calls J3 35 #[.agg #[.int .i64 major,.slice (some ⟨g,0,none⟩) len cap]] w fun e w'=>e= .returned (.bool (nn major len Z))∧Below w.heap.size w w':=by
 by_cases k1: ¬ (1≤major∧major≤1000)
 ·have hin:cv major 1 1000=false:=by simp [cv]; omega
  go_enter Tryz.func35,Tryz.ntmps35
  go_wp2_with (go_at_call 34; refine (dx _ _ _ _).mono ?_; rintro e w' ⟨rfl,rfl⟩);go_ret;exact ⟨al (mm (by omega)).symm,by go_grown⟩
 have k1:1≤major∧major≤1000:=by omega
 have hin:cv major 1 1000=true:=eB k1.1 k1.2;by_cases k2:20 < len
 ·go_enter Tryz.func35,Tryz.ntmps35
  go_wp2_with (go_at_call 34; refine (dx _ _ _ _).mono ?_; rintro e w' ⟨rfl,rfl⟩);go_ret;exact ⟨al (mm (by omega)).symm,by go_grown⟩
 obtain ⟨k1,k1'⟩:=k1;have hgl:=hr.lt
 go_enter Tryz.func35,Tryz.ntmps35
 go_wp2_with (go_at_call 34; refine (dx _ _ _ _).mono ?_; rintro e w' ⟨rfl,rfl⟩)
 go_loopw [3,4] (fun t i wr=> ∃ k:Nat,k≤len∧i= .int .i64 k∧t= .int .i64 (o7 Z k)∧(∀ i,i < k→pn major Z i=true)∧Below (w.heap.size+1) (w.alloc (.cells #[.int .i64 major,.slice (some ⟨g,0,none⟩) len cap] 33)) wr) (fun _ i _=>len - (intOf i).toNat)
 case atStart=>exact ⟨0,Ky _,rfl,rfl,fun i hi=>by omega,Kp _ _⟩
 case round=>
  obtain ⟨k,hk,rfl,rfl,hall,kj⟩:=hrel;have HA:Hid (∀ i,i < k→pn major Z i=true):=hall;have he:=A4 k hall;clear hall;obtain ⟨he0,he1⟩:=he;have he1:=he1 k1;have hs:w.heap.size < wr.heap.size:=by have:=kj.size; simp only [World.size_alloc] at this; omega
  have m0:wr.cell? ⟨w.heap.size,0,none⟩=some (.int .i64 major):=(kj.cell (p:=⟨w.heap.size,0,none⟩) (by simp)).trans (by simp);have m1:wr.cell? ⟨w.heap.size,1,none⟩=some (.slice (some ⟨g,0,none⟩) len cap):=(kj.cell (p:=⟨w.heap.size,1,none⟩) (by simp)).trans (by simp);by_cases hlt:k < len
  ·have Vo:lT wr g len Z:=(hr.alloc _).of_block (kj.block g (by omega))
   have c0:wr.cell? ⟨g,k * 3,none⟩=some (.int .i64 (Z (k * 3))):=Vo.cell (by omega);have c1:wr.cell? ⟨g,k * 3+1,none⟩=some (.int .i64 (Z (k * 3+1))):=Vo.cell (by omega);have c2:wr.cell? ⟨g,k * 3+2,none⟩=some (.int .i64 (Z (k * 3+2))):=Vo.cell (by omega);have HR:Hid (lT wr g len Z):=Vo;clear Vo hr;have q0:=hz (k * 3);have q0':=hz (k * 3+1);generalize ha:Z (k * 3)=a at *;generalize hl':Z (k * 3+1)=l at *;generalize hp:Z (k * 3+2)=p at *;have hend:o7 Z (k+1)=a+l:=by simp [o7,ha,hl']
   have HE:=(show Hid (o7 Z (k+1)=a+l) from hend)
   have TX:pn major Z k=BX major (o7 Z k) a l p:=by simp [pn,ha,hl',hp]
   have HW:=(show Hid (pn major Z k=BX major (o7 Z k) a l p) from TX)
   clear hend TX ha hl' hp;generalize hen:o7 Z k=en at *;clear hen hz;have hno:BX major en a l p=false→nn major len Z=false:=fun h=>mm (fun hh=>by have:=hh.2.2.2 k hlt; rw [HW.I,h] at this; cases this)
   have HN:Hid (BX major en a l p=false→nn major len Z=false):=hno;clear hno;have hB:Below w.heap.size w wr:=((Kp _ _).alloc (Ki _) _).trans (kj.mono (by omega));by_cases q1: ¬ (en≤a∧a≤major)
   ·have i1:cv a en major=false:=by simp [cv]; omega
    go_wp2_with (go_at_call 34; refine (dx _ _ _ _).mono ?_; rintro e w' ⟨rfl,rfl⟩);go_ret;exact ⟨al (HN.I (hG (by omega))).symm,hB.alloc (by omega) _⟩
   have q1:en≤a∧a≤major:=by omega
   have i1:cv a en major=true:=eB q1.1 q1.2;by_cases q2: ¬ (1≤l∧l≤major)
   ·have i2:cv l 1 major=false:=by simp [cv]; omega
    go_wp2_with (go_at_call 34; refine (dx _ _ _ _).mono ?_; rintro e w' ⟨rfl,rfl⟩);go_ret;exact ⟨al (HN.I (hG (by omega))).symm,hB.alloc (by omega) _⟩
   have q2:1≤l∧l≤major:=by omega
   have i2:cv l 1 major=true:=eB q2.1 q2.2;by_cases q3:major < a+l
   ·go_wp2_with (go_at_call 34; refine (dx _ _ _ _).mono ?_; rintro e w' ⟨rfl,rfl⟩)
    go_ret;exact ⟨al (HN.I (hG (by omega))).symm,hB.alloc (by omega) _⟩
   by_cases q4: ¬ (1≤p∧p≤6)
   ·have i4:cv p 1 6=false:=by simp [cv]; omega
    go_wp2_with (go_at_call 34; refine (dx _ _ _ _).mono ?_; rintro e w' ⟨rfl,rfl⟩);go_ret;exact ⟨al (HN.I (hG (by omega))).symm,hB.alloc (by omega) _⟩
   have q4:1≤p∧p≤6:=by omega
   have i4:cv p 1 6=true:=eB q4.1 q4.2;go_wp2_with (go_at_call 34; refine (dx _ _ _ _).mono ?_; rintro e w' ⟨rfl,rfl⟩);go_roundw
   case rel=>
    refine ⟨k+1,by omega,by go_num,by rw [HE.I],?_,kj.alloc (by omega) _⟩;intro i hi;by_cases e:i=k
    ·subst e; rw [HW.I]; exact Tx (by omega)
    ·exact HA.I i (by omega)
   case measure=>simp [intOf]; omega
  ·go_wp2
   go_ret;have e:k=len:=by omega
   subst e;exact ⟨al (PE ⟨k1,k1',by omega,HA.I⟩).symm,((Kp _ _).alloc (Ki _) _).trans (kj.mono (by omega))⟩
end
section
open Go
section
variable {P:Program} {ops:Array Oper} {Q:Exit→Act→World→Prop} {md:Region.Mode} {S:World→Prop}
theorem tk (i:Nat) {oi:Oper} {v:Value} {fuel:Nat} {RV:Array Bool} {a:Act} {w:World} {d:Tmp} (hy: ∀ w,S w→(execOp a.eval oi).run P w= .ok (.value v) w) (hS:S w)
  (h:wpAnyH P md ops Q S fuel (RV.setIfInBounds i true) (a.put (some d) v) w) (hi:ops[i]? =some oi:=by rfl) (hd:oi.dst=some d:=by rfl) (h1:Region.noSelect ops=true:=by kernel_rfl) (h2:Region.free md ops RV i=true:=by kernel_rfl) (h3:(Region.ready md ops RV).contains i=true:=by kernel_rfl)
  (hQ: ∀ c a w,Q (.panic c) (a.put (some d) v) w→Q (.panic c) a w:=by exact fun _ _ _ h=>h) (hw:Region.wanted oi (yielded ops a.tmps)=true:=by kernel_rfl):wpAnyH P md ops Q S (fuel+1) RV a w:=by
 rw [← hd] at h hQ;exact wpAnyH_take (i:=i) hi h1 h2 h3 hQ (.inl ⟨hw,hy⟩) hS h
theorem tt (i:Nat) {oi:Oper} {v:Value} {fuel:Nat} {RV:Array Bool} {a a':Act} {w:World} {d:Tmp} (hS:S w) (h:wpAnyH P md ops Q S fuel (RV.setIfInBounds i true) a' w) (hi:ops[i]? =some oi:=by rfl) (hd:oi.dst=some d:=by rfl)
  (hy: ∀ w,S w→(execOp a.eval oi).run P w= .ok (.value v) w:=by intro w0 hS0; go_simp; try with_reducible rfl) (h1:Region.noSelect ops=true:=by kernel_rfl) (h2:Region.free md ops RV i=true:=by kernel_rfl) (h3:(Region.ready md ops RV).contains i=true:=by kernel_rfl)
  (hQ: ∀ c a w,Q (.panic c) (a.put (some d) v) w→Q (.panic c) a w:=by exact fun _ _ _ h=>h) (hw:Region.wanted oi (yielded ops a.tmps)=true:=by kernel_rfl) (ha:a.put (some d) v=a':=by simp only [pt,sb,s0,s1]; rfl):wpAnyH P md ops Q S (fuel+1) RV a w:=
 tk i hy hS (by rw [ha]; exact h) hi hd h1 h2 h3 hQ hw
theorem L7 (i:Nat) {o:Oper} {fuel:Nat} {RV:Array Bool} {a:Act} {w:World} (h: ∀ K':Act→World→Prop,Shut (∀ a w,S w→(S w→wpAnyH P md ops Q S fuel (RV.setIfInBounds i true) a w)→K' a w)→Oper.wp P o a w K' Q)
  (hr:Region.ready md ops RV= [i] :=by kernel_rfl) (ho:ops.toList[i]? =some o:=by rfl) (hw:Region.wanted o (yielded ops a.tmps)=true:=by kernel_rfl):wpAnyH P md ops Q S (fuel+1) RV a w:=
 wpAnyH_ready hr (by simp) (KX (by rw [← ho]; simp) (fun K' hK=>by rw [if_pos hw]; exact h K' hK) KY)
end
end
section
open Go.RowKit
theorem GA (k n m:Int) (s:ByteArray) (left:Int) (w:World) (hl:s.size≤maxLen) (h0:0≤left) (h1:left≤1048576):
  Calls J3 208 #[.agg #[.int .i64 k,.int .i64 n,.int .i64 m,.string s],.int .i64 left] w fun e w'=>e= .returned (.int .i64 (szOf left s.size))∧Below w.heap.size w w':=by
 unfold maxLen at hl;by_cases h:left < s.size
 ·have h':left - (s.size:Int) < 0:=by omega
  go_enter Tryz.func208,Tryz.ntmps208
  go_wp2;go_ret;exact ⟨ck (Bj h).symm,by go_grown⟩
 ·have h': ¬ left - (s.size:Int) < 0:=by omega
  go_enter Tryz.func208,Tryz.ntmps208
  go_wp2;go_ret;exact ⟨ck (AQ (by omega)).symm,by go_grown⟩
theorem Hg (k n m:Int) (s:ByteArray) (w:World):
  Calls J3 209 #[.agg #[.int .i64 k,.int .i64 n,.int .i64 m,.string s]] w fun e w'=>e= .returned (.agg #[.int .i64 k,.int .i64 n,.int .i64 m,.string s])∧Below w.heap.size w w':=by
 go_enter Tryz.func209,Tryz.ntmps209
 go_wp2;exact bodyPost_ret (v:= .agg #[.int .i64 k,.int .i64 n,.int .i64 m,.string s]) (by simp [results,Tryz.results209,go_sem]) rfl ⟨rfl,by go_grown⟩
theorem EN (k n m:Int) (s:ByteArray) (w:World):
  Calls J3 194 #[.agg #[.int .i64 k,.int .i64 n,.int .i64 m,.string s],.agg #[.int .i64 k,.int .i64 n,.int .i64 m,.string s]] w fun e w'=>e= .returned (.bool true)∧Below w.heap.size w w':=by
 go_enter Tryz.func194,Tryz.ntmps194
 go_wp2;go_ret;exact ⟨al (by simp),by go_grown⟩
end
end Go.Proofs.YteidkehoekbcaaaGreat
