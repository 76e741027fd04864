/- What the proof leans on, part 1. -/
import Derived.Test.YtgdmbemagdbmaaaGreatDoorOwnV
import Derived.Test.YtgdmbemagdbmaaaGreatDoorProg
import Derived.Handy
import Derived.Deep.OwnRows
import Derived.BigQuiet
import Derived.Lib.ItoaNum
import Derived.Deep.RegionHeld3
import Derived.Deep.AppendLies
import Derived.Deep.DrawnRows
import Derived.Deep.RegionLaw
import Derived.Deep.Cut
set_option linter.unusedVariables false
set_option maxRecDepth 100000
set_option maxHeartbeats 8000000
open Go.Proofs.Tryz
open Go renaming World->w_,Value->v_,Calls->k_,Addr->d_,TypeId->T_
open Go.Ending renaming returned->r_
open Go.IntKind renaming i64->j_
open Go.Obj renaming cells->c_
open Go.RowKit renaming Below->B_
open Go.Value renaming int->i_,slice->s_,bool->b_,string->t_,agg->a_,pointer->p_,tuple->u_
open Option renaming some->o_,none->n_
open Array renaming all_eq_true_iff_forall_mem->aeb,getD_eq_getD_getElem?->adY,getElem?_eq_getElem->Qb,getElem?_eq_some_iff->J2
open Bool renaming and_eq_true->J7,false_or->Qg,not_eq_true'->PR,or_eq_true->Kb
open Go renaming block_lt_of_cell->Le,bodyPost_ret->KT,cell_of_row->K5,frozen_of_row->Ko,heap_alloc_new->Kj,heap_setCell_same->K7,mem_ready->Qf,ready_mono->Qe,results_cell_row->K9,wpAnyH_done->K3,wpOp_mono->Qd,wp_at_succ->Kd,wp_at_zero->Kc,wp_region_held_drew->Kr
open Go.Act renaming put_comm->Qc
open Go.AllReadyH renaming cons->KX,nil->KY
open Go.Calls renaming mono->adn
open Go.IntKind renaming wrap_i64->K8
open Go.Proofs.Tryz renaming prog->J3
open Go.RowKit.Below renaming heap_setCell->K6,refl->Kp
open Go.World renaming cell?_of_block->J1,size_alloc->RR
open List renaming getElem?_eq_getElem->Kz,getElem?_eq_some_iff->Lj,length_append->Lf,mem_filter->L2,mem_map->Lr,mem_of_getElem?->KA
open Nat renaming le_refl->Ki,le_trans->LG,lt_of_lt_of_le->Kn,succ_mul->Lh,zero_le->Ky
open Option renaming getD_some->Ka,map_some->J9
open Option.some renaming injEq->LF

namespace Go.Proofs.YtgdmbemagdbmaaaGreatDoor
section
open Go.RowKit
theorem _root_.Go.RowKit.Hid.I {p:Prop} (h:Hid p):p:=h
theorem PU {w:w_} {o:Obj} {i:Nat} (h:i < w.heap.size):(w.alloc o).heap[i]? =w.heap[i]? :=((Kp _ w).alloc (Ki _) o).block i h
def cv (n lo hi:Int):Bool:=decide (lo≤n) && decide (n≤hi)
theorem eB {n lo hi:Int} (h1:lo≤n) (h2:n≤hi):cv n lo hi=true:=by simp [cv,h1,h2]
theorem mA {n lo hi:Int} (h:n < lo):cv n lo hi=false:=by simp [cv]; omega
theorem kR {n lo hi:Int} (h:hi < n):cv n lo hi=false:=by simp [cv]; omega
theorem al {a b:Bool} (h:a=b):Ending.returned (b_ a)=r_ (b_ b):=by rw [h]
theorem ck {k:IntKind} {a b:Int} (h:a=b):Ending.returned (i_ k a)=r_ (i_ k b):=by rw [h]
def lT (w:w_) (g len:Nat) (Z:Nat→Int):Prop:=g < w.heap.size∧ ∀ j,j < len * 3→w.cell? ⟨g,j,n_⟩=o_ (i_ j_ (Z j))
theorem lT.lt {w:w_} {g len:Nat} {Z:Nat→Int} (h:lT w g len Z):g < w.heap.size:=h.1
theorem lT.cell {w:w_} {g len:Nat} {Z:Nat→Int} (h:lT w g len Z) {i:Nat} (hi:i < len * 3):w.cell? ⟨g,i,n_⟩=o_ (i_ j_ (Z i)):=h.2 i hi
theorem lT.of_block {w w':w_} {g len:Nat} {Z:Nat→Int} (h:lT w g len Z) (e:w'.heap[g]? =w.heap[g]?):lT w' g len Z:=by
 exact Zbx
theorem lT.alloc {w:w_} {g len:Nat} {Z:Nat→Int} (h:lT w g len Z) (o:Obj):lT (w.alloc o) g len Z:=h.of_block (Below.heap_alloc w o g h.1)
theorem dx (n lo hi:Int) (w:w_):
  k_ J3 27 #[i_ j_ n,i_ j_ lo,i_ j_ hi] w fun e w'=>e=r_ (b_ (cv n lo hi))∧w'=w:=by
 by_cases h1:lo≤n
 ·by_cases h2:n≤hi
  ·go_enter func27,ntmps27
   exact Zbi
  ·go_enter func27,ntmps27
   exact Za4
 ·go_enter func27,ntmps27
  exact Za5
end
section
open Go
section
variable {P : Program} {ops : Array Oper} {Q : Exit → Act → w_ → Prop} {md : Region.Mode} {S : w_ → Prop}
def Comes (P : Program) (S : w_ → Prop) (v : v_) : Result Next → Prop
  | .ok (.value u) w' => u = v ∧ S w'
  | .ok .skip w' => v = undef ∧ S w'
  | .ok (.enter f args) w' => k_ P f args w' (fun e w'' => e =r_ v ∧ S w'')
  | _ => False
def Does (P : Program) (ops : Array Oper) (S : w_ → Prop) (o : Oper) (v : v_) (a : Act) : Prop :=
  (Region.wanted o (yielded ops a.tmps) = true ∧ ∀ w, S w → Comes P S v ((execOp a.eval o).run P w)) ∨
  (Region.wanted o (yielded ops a.tmps) = false ∧ v = undef)
theorem Does.of_same {o : Oper} {v : v_} {a a' : Act} (hy : Does P ops S o v a) (he : execOp a'.eval o = execOp a.eval o)
    (hw : Region.wanted o (yielded ops a'.tmps) = Region.wanted o (yielded ops a.tmps)) : Does P ops S o v a' := by
  unfold Does at *;rw [he, hw];exact hy
theorem Does.wpOp {i : Nat} {o : Oper} {v : v_} {a : Act} (hi : ops[i]? = o_ o) (hy : Does P ops S o v a)
    {K : Act → w_ → Prop} {w : w_} (hS : S w) (h : ∀ w', S w' → K (a.put o.dst v) w') : wpOp P ops Q i K a w := by
  unfold Go.wpOp;simp only [hi];rcases hy with ⟨hw, hv⟩ | ⟨hw, rfl⟩
  · simp only [hw, if_true]
    refine .inl ?_;have hc := hv w hS;unfold Oper.wp;generalize (execOp a.eval o).run P w = r at *;cases r with
    | ok n w' =>
      cases n <;> simp only [Comes, Oper.upon] at hc ⊢
      case value u =>
        obtain ⟨rfl, GH⟩ := hc;exact h _ GH
      case skip =>
        obtain ⟨rfl, GH⟩ := hc;exact h _ GH
      case enter f args =>
        refine adn hc fun e w'' he => ?_
        obtain ⟨rfl, GH⟩ := he;exact h _ GH
    | halt x w' => exact hc.elim
  · simp only [hw, Bool.false_eq_true, if_false]
    exact h _ hS
theorem xH {j : Nat} {oi oj : Oper} {v : v_} (hj : ops[j]? = o_ oj) (hap : oi.apart ops oj = true)
    (hsi : ∀ cs b, oi.op ≠ .select cs b) (hsj : ∀ cs b, oj.op ≠ .select cs b)
    (hQ : ∀ c a w, Q (.panic c) (a.put oi.dst v) w → Q (.panic c) a w) {K : Act → w_ → Prop} {a : Act} {w : w_}
    (hy : Does P ops S oi v a) (h : wpOp P ops Q j K (a.put oi.dst v) w) :
    wpOp P ops Q j (fun a' w' => Does P ops S oi v a' ∧ K (a'.put oi.dst v) w') a w := by
  obtain ⟨h1, h2, h3⟩ := Oper.apart_spec hap;have keep : ∀ (a : Act), Does P ops S oi v a → ∀ u, Does P ops S oi v (a.put oj.dst u) := fun a hy u =>
    hy.of_same (execOp_put oi hsi a oj.dst u h3) (wanted_put oi a oj.dst u h3)
  have keepD : ∀ d, Does P ops S oi v { a with defers := d :: a.defers } := fun d => hy.of_same rfl rfl
  unfold wpOp at *;simp only [hj] at *;rw [wanted_put oj a oi.dst v h1] at h
  split
  · rename_i hw
    simp only [hw, if_true] at h;rcases h with h | ⟨hasks, hlets⟩
    case inr => exact .inr ⟨by unfold Oper.asks at *; rw [execOp_put oj hsj a oi.dst v h1] at hasks; exact hasks, hlets⟩
    refine .inl ?_;unfold Oper.wp at *;rw [execOp_put oj hsj a oi.dst v h1] at h;generalize (execOp a.eval oj).run P w = r at *;cases r with
    | ok n w' =>
      cases n <;> simp only [Oper.upon] at h ⊢
      case value u => exact ⟨keep a hy u, by rw [← Qc a v u h2]; exact h⟩
      case skip => exact ⟨keep a hy _, by rw [← Qc a v undef h2]; exact h⟩
      case defer d =>
        refine ⟨keep _ (keepD d) _, ?_⟩;rw [← Qc _ v undef h2, ← Act.put_defers];exact h
      case enter f args =>
        refine adn h fun e w'' he => ?_
        cases e with
        | returned u => exact ⟨keep a hy u, by rw [← Qc a v u h2]; exact he⟩
        | panicked c => exact hQ _ _ _ he
        | outgrown => exact he
      case row row args => exact Rows.mono h fun u w'' he => ⟨keep a hy u, by rw [← Qc a v u h2]; exact he⟩
    | halt x w' =>
      cases x <;> simp only [Oper.upon] at h ⊢
      case panic u => exact hQ _ _ _ h
  · rename_i hw
    simp only [hw] at h;exact ⟨keep a hy _, by rw [← Qc a v undef h2]; exact h⟩
def gR (P : Program) (md : Region.Mode) (ops : Array Oper) (Q : Exit → Act → w_ → Prop) (S : w_ → Prop) : Nat → Array Bool → Act → Prop
  | 0, RV, a => Region.ready md ops RV = [] ∧ ∀ w, S w → Q .normal a w
  | fuel + 1, RV, a =>
    (Region.ready md ops RV = [] → ∀ w, S w → Q .normal a w) ∧
    ∀ i ∈ Region.ready md ops RV, ∀ w, S w → wpOp P ops Q i (fun a' w' => S w' ∧ gR P md ops Q S fuel (RV.setIfInBounds i true) a') a w
theorem pW : ∀ (fuel : Nat) (RV : Array Bool) (a : Act) (w : w_), S w → gR P md ops Q S fuel RV a → wpAny P md ops Q fuel RV a w
  | 0, _, _, w, hS, h => ⟨h.1, h.2 w hS⟩
  | fuel + 1, _, _, w, hS, h => ⟨fun h0 => h.1 h0 w hS, fun i hi => Qd (fun a' w' h' => pW fuel _ a' w' h'.1 h'.2) (h.2 i hi w hS)⟩
theorem yd {i : Nat} {oi : Oper} {v : v_} (hi : ops[i]? = o_ oi) (hsel : ∀ (j : Nat) (o : Oper) cs b, ops[j]? = o_ o → o.op ≠ .select cs b)
    (hQ : ∀ c a w, Q (.panic c) (a.put oi.dst v) w → Q (.panic c) a w) :
    ∀ (fuel : Nat) (RV : Array Bool) (a : Act),
      (∀ j oj, ops[j]? = o_ oj → j ≠ i → RV.getD j true = false → (∀ e ∈ oj.after, Region.binds md e = true → e.on ≠ i) → oi.apart ops oj = true) →
      i ∈ Region.ready md ops RV → Does P ops S oi v a →
      gR P md ops Q S fuel (RV.setIfInBounds i true) (a.put oi.dst v) → gR P md ops Q S (fuel + 1) RV a := by
  intro fuel
  induction fuel with
  | zero =>
    intro RV a _ hr hy H;refine ⟨fun h => (by rw [h] at hr; cases hr), fun j hj w hS => ?_⟩;by_cases hji : j = i
    · subst hji
      exact ZbT
    · have := Qe hj hji
      rw [H.1] at this;cases this
  | succ fuel ih =>
    intro RV a hfree hr hy H;refine ⟨fun h => (by rw [h] at hr; cases hr), fun j hj w hS => ?_⟩;by_cases hji : j = i
    · subst hji
      exact ZbT
    · have h1 := H.2 j (Qe hj hji) w hS
      obtain ⟨hjun, oj, hoj, hall⟩ := Qf.1 hj;have hnot : ∀ e ∈ oj.after, Region.binds md e = true → e.on ≠ i := fun e he hb heq => by
        exact Zav
      have h2 := xH hoj (hfree j oj hoj hji hjun hnot) (fun cs b => hsel i oi cs b hi) (fun cs b => hsel j oj cs b hoj) hQ hy h1;have hfree' : ∀ k ok, ops[k]? = o_ ok → k ≠ i → (RV.setIfInBounds j true).getD k true = false →
          (∀ e ∈ ok.after, Region.binds md e = true → e.on ≠ i) → oi.apart ops ok = true := fun k ok hk hki hun hno => by
        exact Zbk
      refine Qd (fun a' w' h3 => ⟨h3.2.1, ih (RV.setIfInBounds j true) a' hfree' (Qe hr (Ne.symm hji)) h3.1 ?_⟩) h2;rw [Array.setIfInBounds_comm _ _ hji];exact h3.2.2
theorem Fq {i : Nat} {oi : Oper} {v : v_} {fuel : Nat} {RV : Array Bool} {a : Act} (hi : ops[i]? = o_ oi)
    (hs : Region.noSelect ops = true) (hf : Region.free md ops RV i = true) (hr : (Region.ready md ops RV).contains i = true)
    (hQ : ∀ c a w, Q (.panic c) (a.put oi.dst v) w → Q (.panic c) a w) (hy : Does P ops S oi v a)
    (h : gR P md ops Q S fuel (RV.setIfInBounds i true) (a.put oi.dst v)) : gR P md ops Q S (fuel + 1) RV a :=
  yd hi (Region.noSelect_spec hs) hQ fuel RV a (Region.free_spec hi hf) (by simpa using hr) hy h
theorem IK {i : Nat} (d : Option Tmp) {oi : Oper} {v : v_} {fuel : Nat} {RV : Array Bool} {a : Act} (hi : ops[i]? = o_ oi) (hd : oi.dst = d)
    (hs : Region.noSelect ops = true) (hf : Region.free md ops RV i = true) (hr : (Region.ready md ops RV).contains i = true)
    (hQ : ∀ c a w, Q (.panic c) (a.put d v) w → Q (.panic c) a w) (hy : Does P ops S oi v a)
    (h : gR P md ops Q S fuel (RV.setIfInBounds i true) (a.put d v)) : gR P md ops Q S (fuel + 1) RV a := by
  subst hd;exact Fq hi hs hf hr hQ hy h
def Jj (md : Region.Mode) (ops : Array Oper) (RV : Array Bool) (i : Nat) (oi : Oper) (d : Option Tmp) : Bool := decide (oi.dst = d) && Region.noSelect ops && Region.free md ops RV i && (Region.ready md ops RV).contains i
theorem tm (i : Nat) (d : Option Tmp) {oi : Oper} {v : v_} {fuel : Nat} {RV : Array Bool} {a : Act} (hi : ops[i]? = o_ oi) (hc : Jj md ops RV i oi d = true)
    (hQ : ∀ c a w, Q (.panic c) (a.put d v) w → Q (.panic c) a w) (hy : Does P ops S oi v a)
    (h : gR P md ops Q S fuel (RV.setIfInBounds i true) (a.put d v)) : gR P md ops Q S (fuel + 1) RV a := by
  simp only [Jj, J7, decide_eq_true_eq] at hc;exact IK d hi hc.1.1.1 hc.1.1.2 hc.1.2 hc.2 hQ hy h
theorem pt (a : Act) (d : Tmp) (v : v_) : a.put (o_ d) v = { a with tmps := a.tmps.setIfInBounds d v } := rfl
theorem sb {α : Type} {l : List α} {i : Nat} {x : α} : l.toArray.setIfInBounds i x = (l.set i x).toArray := by simp
theorem s0 {α : Type} {l : List α} {x y : α} : (x :: l).set 0 y = y :: l := rfl
theorem s1 {α : Type} {l : List α} {x y : α} {n : Nat} : (x :: l).set (n + 1) y = x :: l.set n y := rfl
theorem bk {RV : Array Bool} {a : Act} (hr : Region.ready md ops RV = []) (h : ∀ w, S w → Q .normal a w) : ∀ fuel, gR P md ops Q S fuel RV a
  | 0 => ⟨hr, h⟩
  | _ + 1 => ⟨fun _ => h, by rw [hr]; simp⟩
theorem aT {id : Nat} {a : Act} {w : w_} (S : w_ → Prop) (hm : P.follows .mixedOrders = true) (hS : S w.drew)
    (h : gR P .any ops Q S ops.size (Array.replicate ops.size false) a) : (Code.region id ops true).wp P Q a w :=
  wp_region_any hm (pW _ _ _ _ hS h)
/-! ### A region whose last operation may turn what the others keep -/
def qe (md : Region.Mode) (ops : Array Oper) (RV : Array Bool) : Prop := ∀ (j : Nat) (o : Oper), ops[j]? = o_ o → RV.getD j false = true → ∀ e ∈ o.after, Region.binds md e = true → RV.getD e.on false = true
def tM (md : Region.Mode) (ops : Array Oper) (RV : Array Bool) : Bool :=
  (List.range ops.size).all fun j => !RV.getD j false || ((ops[j]?).map fun o => o.after.all fun e => !Region.binds md e || RV.getD e.on false).getD true
theorem yp {RV : Array Bool} (h : tM md ops RV = true) : qe md ops RV := fun j o ho hl e he hb => by
  simp only [tM, List.all_eq_true, List.mem_range] at h;have h1 := h j (J2.1 ho).1;rw [hl, ho] at h1;simp only [Bool.not_true, Qg, J9, Ka, aeb, Kb, PR] at h1;rcases h1 e he with h2 | h2
  · rw [hb] at h2; cases h2
  · exact h2
theorem qe.set {RV : Array Bool} {j : Nat} (h : qe md ops RV) (hj : j ∈ Region.ready md ops RV) : qe md ops (RV.setIfInBounds j true) := fun k o ho hl e he hb => by
  obtain ⟨_, o', ho', hall⟩ := Qf.1 hj;by_cases hjk : j = k
  · subst hjk
    rw [ho'] at ho;cases ho;exact getD_set_true (hall e he hb)
  · rw [getD_set_ne false hjk] at hl
    exact getD_set_true (h k o ho hl e he hb)
def preB (md : Region.Mode) (ops : Array Oper) : Nat → Nat → Nat → Bool
  | 0, x, i => x == i
  | n + 1, x, i => x == i || ((ops[x]?).map fun o => o.after.any fun e => Region.binds md e && preB md ops n e.on i).getD false
theorem vi {RV : Array Bool} (hc : qe md ops RV) {i : Nat} : ∀ (n x : Nat), RV.getD x false = true → preB md ops n x i = true → RV.getD i false = true
  | 0, x, hx, h => by
    have e : x = i := by simpa [preB] using h
    rw [← e];exact hx
  | n + 1, x, hx, h => by
    simp only [preB, Kb, beq_iff_eq] at h;rcases h with e | h
    · rw [← e]
      exact hx
    · cases ho : ops[x]? with
      | none => rw [ho] at h; simp at h
      | some o =>
        rw [ho] at h;simp only [J9, Ka, Array.any_eq_true'] at h;obtain ⟨e, he, h2⟩ := h;simp only [J7] at h2;exact vi hc n e.on (hc x o ho hx e he h2.1) h2.2
theorem rV {RV : Array Bool} (hc : qe md ops RV) {i L n : Nat} (hp : preB md ops n L i = true) (hne : ¬ i = L) (hi : RV.getD i true = false) : L ∉ Region.ready md ops RV := fun hL => by
  obtain ⟨_, o, ho, hall⟩ := Qf.1 hL;have hi' : ¬ RV.getD i false = true := fun h => by
    rcases Nat.lt_or_ge i RV.size with h' | h'
    · simp [h'] at h hi
      rw [h] at hi;cases hi
    · simp [Array.getElem?_eq_none h'] at h
  cases n with
  | zero => exact hne (by have e : L = i := by simpa [preB] using hp
                          exact e.symm)
  | succ n =>
    simp only [preB, Kb, beq_iff_eq] at hp;rcases hp with e | h
    · exact hne e.symm
    · rw [ho] at h
      simp only [J9, Ka, Array.any_eq_true'] at h;obtain ⟨e, he, h2⟩ := h;simp only [J7] at h2;exact hi' (vi hc n e.on (hall e he h2.1) h2.2)
def kS (P : Program) (md : Region.Mode) (ops : Array Oper) (Q : Exit → Act → w_ → Prop) (S : w_ → Prop) (L : Nat) : Nat → Array Bool → Act → Prop
  | 0, _, _ => False
  | fuel + 1, RV, a =>
    Region.ready md ops RV ≠ [] ∧
    ∀ i ∈ Region.ready md ops RV, ∀ w, S w →
      (i = L ∧ Region.ready md ops (RV.setIfInBounds L true) = [] ∧ wpOp P ops Q L (fun a' w' => Q .normal a' w') a w) ∨
      (i ≠ L ∧ wpOp P ops Q i (fun a' w' => S w' ∧ kS P md ops Q S L fuel (RV.setIfInBounds i true) a') a w)
theorem pM {L : Nat} : ∀ (fuel : Nat) (RV : Array Bool) (a : Act) (w : w_), S w → kS P md ops Q S L fuel RV a → wpAny P md ops Q fuel RV a w
  | 0, _, _, _, _, h => h.elim
  | fuel + 1, RV, a, w, hS, h => ⟨fun h0 => absurd h0 h.1, fun i hi => by
    rcases h.2 i hi w hS with ⟨rfl, h1, h2⟩ | ⟨_, h2⟩
    · exact Qd (fun a' w' h' => wpAny_done h1 h' fuel) h2
    · exact Qd (fun a' w' h' => pM fuel _ a' w' h'.1 h'.2) h2⟩
theorem yw {L i n : Nat} {oi : Oper} {v : v_} (hi : ops[i]? = o_ oi) (hsel : ∀ (j : Nat) (o : Oper) cs b, ops[j]? = o_ o → o.op ≠ .select cs b)
    (hQ : ∀ c a w, Q (.panic c) (a.put oi.dst v) w → Q (.panic c) a w) (hp : preB md ops n L i = true) (hne : ¬ i = L) :
    ∀ (fuel : Nat) (RV : Array Bool) (a : Act), qe md ops RV →
      (∀ j oj, ops[j]? = o_ oj → j ≠ i → RV.getD j true = false → (∀ e ∈ oj.after, Region.binds md e = true → e.on ≠ i) → oi.apart ops oj = true) →
      i ∈ Region.ready md ops RV → Does P ops S oi v a →
      kS P md ops Q S L fuel (RV.setIfInBounds i true) (a.put oi.dst v) → kS P md ops Q S L (fuel + 1) RV a := by
  intro fuel
  induction fuel with
  | zero => intro RV a _ _ _ _ H; exact H.elim
  | succ fuel ih =>
    intro RV a hcl hfree hr hy H;refine ⟨fun h => (by rw [h] at hr; cases hr), fun j hj w hS => ?_⟩;have hjL : ¬ j = L := fun e => by
      subst e;exact rV hcl hp hne (Qf.1 hr).1 hj
    refine .inr ⟨hjL, ?_⟩;by_cases hji : j = i
    · subst hji
      exact ZbT
    · have h1 := (H.2 j (Qe hj hji) w hS).resolve_left (fun h => hjL h.1)
      obtain ⟨hjun, oj, hoj, hall⟩ := Qf.1 hj;have hnot : ∀ e ∈ oj.after, Region.binds md e = true → e.on ≠ i := fun e he hb heq => by
        exact Zav
      have h2 := xH hoj (hfree j oj hoj hji hjun hnot) (fun cs b => hsel i oi cs b hi) (fun cs b => hsel j oj cs b hoj) hQ hy h1.2;have hfree' : ∀ k ok, ops[k]? = o_ ok → k ≠ i → (RV.setIfInBounds j true).getD k true = false →
          (∀ e ∈ ok.after, Region.binds md e = true → e.on ≠ i) → oi.apart ops ok = true := fun k ok hk hki hun hno => by
        exact Zbk
      refine Qd (fun a' w' h3 => ⟨h3.2.1, ih (RV.setIfInBounds j true) a' (hcl.set hj) hfree' (Qe hr (Ne.symm hji)) h3.1 ?_⟩) h2;rw [Array.setIfInBounds_comm _ _ hji];exact h3.2.2
theorem I1 {L i : Nat} (n : Nat) (d : Option Tmp) {oi : Oper} {v : v_} {fuel : Nat} {RV : Array Bool} {a : Act} (hi : ops[i]? = o_ oi) (hd : oi.dst = d)
    (hs : Region.noSelect ops = true) (hf : Region.free md ops RV i = true) (hr : (Region.ready md ops RV).contains i = true) (hp : (preB md ops n L i && (i != L) && tM md ops RV) = true)
    (hQ : ∀ c a w, Q (.panic c) (a.put d v) w → Q (.panic c) a w) (hy : Does P ops S oi v a)
    (h : kS P md ops Q S L fuel (RV.setIfInBounds i true) (a.put d v)) : kS P md ops Q S L (fuel + 1) RV a := by
  subst hd;simp only [J7, bne_iff_ne, ne_eq] at hp;exact yw hi (Region.noSelect_spec hs) hQ hp.1.1 hp.1.2 fuel RV a (yp hp.2) (Region.free_spec hi hf) (by simpa using hr) hy h
def lsB (md : Region.Mode) (ops : Array Oper) (RV : Array Bool) (i L n : Nat) (oi : Oper) (d : Option Tmp) : Bool := Jj md ops RV i oi d && (preB md ops n L i && (i != L) && tM md ops RV)
theorem ls {L : Nat} (i n : Nat) (d : Option Tmp) {oi : Oper} {v : v_} {fuel : Nat} {RV : Array Bool} {a : Act} (hi : ops[i]? = o_ oi) (hc : lsB md ops RV i L n oi d = true)
    (hQ : ∀ c a w, Q (.panic c) (a.put d v) w → Q (.panic c) a w) (hy : Does P ops S oi v a)
    (h : kS P md ops Q S L fuel (RV.setIfInBounds i true) (a.put d v)) : kS P md ops Q S L (fuel + 1) RV a := by
  simp only [lsB, Jj, J7, decide_eq_true_eq] at hc;exact I1 n d hi hc.1.1.1.1 hc.1.1.1.2 hc.1.1.2 hc.1.2 (by simp only [J7]; exact hc.2) hQ hy h
theorem fL {L : Nat} {oL : Oper} {fuel : Nat} {RV : Array Bool} {a : Act} (hi : ops[L]? = o_ oL) (hr : Region.ready md ops RV = [L]) (hr' : Region.ready md ops (RV.setIfInBounds L true) = [])
    (hw : Region.wanted oL (yielded ops a.tmps) = true) (h : ∀ w, S w → oL.wp P a w (fun a' w' => Q .normal a' w') Q) : kS P md ops Q S L (fuel + 1) RV a := by
  refine ⟨by rw [hr]; simp, fun i hi' w hS => ?_⟩;rw [hr] at hi';have e : i = L := by simpa using hi'
  refine .inl ⟨e, hr', ?_⟩;unfold wpOp;simp only [hi, hw, if_true];exact .inl (h w hS)
theorem eD {id : Nat} {a : Act} {w : w_} (S : w_ → Prop) (L : Nat) (hm : P.follows .mixedOrders = true) (hS : S w.drew)
    (h : kS P .any ops Q S L ops.size (Array.replicate ops.size false) a) : (Code.region id ops true).wp P Q a w :=
  wp_region_any hm (pM _ _ _ _ hS h)
theorem np {o : Oper} {a : Act} (h : Region.wanted o (yielded ops a.tmps) = false) : Does P ops S o undef a := .inr ⟨h, rfl⟩
theorem bV {o : Oper} {v : v_} {a : Act} (hw : Region.wanted o (yielded ops a.tmps) = true) (h : ∀ w, S w → (execOp a.eval o).run P w = .ok (.value v) w) : Does P ops S o v a :=
  .inl ⟨hw, fun w hS => by rw [h w hS]; exact ⟨rfl, hS⟩⟩
theorem iZ {o : Oper} {v : v_} {a : Act} {f : FuncId} {args : Array v_} (hw : Region.wanted o (yielded ops a.tmps) = true) (h : ∀ w, S w → (execOp a.eval o).run P w = .ok (.enter f args) w)
    (hc : ∀ w, S w → k_ P f args w (fun e w' => e =r_ v ∧ S w')) : Does P ops S o v a :=
  .inl ⟨hw, fun w hS => by rw [h w hS]; exact hc w hS⟩
end
end
section
open Go.RowKit
def gH (c:UInt8):Bool:=decide (32≤(c.toNat:Int)) && decide ((c.toNat:Int)≤126) && !decide ((c.toNat:Int)=59)
def bw (s:ByteArray):Bool:=decide (s.size≤20) && s.data.toList.all gH
theorem Et (s:ByteArray) (k:Nat) (h:k < s.size):s.data.toList.take (k+1)=s.data.toList.take k ++ [s[k]] :=by
 rw [List.take_succ_eq_append_getElem (by simpa using h)]; rfl
theorem Bv {s:ByteArray} {k:Nat} (h:k < s.size) (ha:(s.data.toList.take k).all gH=true) (hb:gH s[k] =true):(s.data.toList.take (k+1)).all gH=true:=by
 rw [Et s k h,List.all_append,ha]; simp [hb]
theorem D7 {s:ByteArray} {k:Nat} (h:k < s.size) (hb:gH s[k] =false):s.data.toList.all gH=false:=by
 rw [List.all_eq_false];exact ⟨s[k], by rw [show s[k] = s.data.toList[k]'(by simpa using h) from rfl]; exact List.getElem_mem _, by simp [hb]⟩
theorem BA (s:ByteArray) {k:Nat} (h:s.size≤k):s.data.toList.take k=s.data.toList:=List.take_of_length_le (by simpa using h)
theorem xo {c:UInt8} (h:(c.toNat:Int) < 32):gH c=false:=by simp [gH]; omega
theorem uO {c:UInt8} (h:126 < (c.toNat:Int)):gH c=false:=by simp [gH]; omega
theorem uj {c:UInt8} (h:(c.toNat:Int)=59):gH c=false:=by simp [gH]; omega
theorem xR {c:UInt8} (h1: ¬ (c.toNat:Int) < 32) (h2: ¬ 126 < (c.toNat:Int)) (h3: ¬ (c.toNat:Int)=59):gH c=true:=by simp [gH]; omega
theorem jC (s:ByteArray) (w:w_) (hs:s.size≤1048576):
  k_ J3 101 #[t_ s] w fun e w'=>e=r_ (b_ (bw s))∧w'=w:=by
 go_enter func101,ntmps101
 go_wp2
 go_loop [3] (fun i=> ∃ k:Nat,k≤s.size∧i=i_ j_ k∧(s.data.toList.take k).all gH=true) (fun i=>s.size - (intOf i).toNat)
 case atStart=>exact ⟨0,Ky _,rfl,rfl⟩
 case round=>
  obtain ⟨k,hk,rfl,hall⟩:=hrel;have HA:Hid ((s.data.toList.take k).all gH=true):=hall;clear hall;by_cases hlt:k < s.size
  ·exact ro
  ·have HA':Hid (s.data.toList.all gH=true):=by have:=HA.I; rwa [BA s (by omega)] at this
   go_wp2;go_ret;exact ⟨al (by rw [Bool.eq_iff_iff]; simp [bw,HA'.I]; omega),rfl⟩
theorem iM (s:ByteArray) (w:w_) (hs:s.size≤1048576):
  k_ J3 74 #[t_ s] w fun e w'=>e=r_ (b_ (bw s))∧w'=w:=by
 by_cases hl:20 < s.size
 ·have hl':(20:Int) < (s.size:Int):=by omega
  go_enter func74,ntmps74
  go_wp2;go_ret;exact ⟨al (by simp [bw]; intro h; omega),rfl⟩
 ·have hl': ¬ (20:Int) < (s.size:Int):=by omega
  go_enter func74,ntmps74
  go_wp2
  go_loop [9] (fun i=> ∃ k:Nat,k≤s.size∧i=i_ j_ k∧(s.data.toList.take k).all gH=true) (fun i=>s.size - (intOf i).toNat)
  case atStart=>exact ⟨0,Ky _,rfl,rfl⟩
  case round=>
   obtain ⟨k,hk,rfl,hall⟩:=hrel;have HA:Hid ((s.data.toList.take k).all gH=true):=hall;clear hall;by_cases hlt:k < s.size
   ·exact ro
   ·have HA':Hid (s.data.toList.all gH=true):=by have:=HA.I; rwa [BA s (by omega)] at this
    have hd:decide (s.size≤20)=true:=by simp; omega
    go_wp2;go_ret;exact ⟨al (by simp only [bw,HA'.I,hd]; rfl),rfl⟩
def xe (K N M:Nat→Int) (S:Nat→ByteArray) (j:Nat):v_:=if j % 4=0 then i_ j_ (K (j / 4)) else if j % 4=1 then i_ j_ (N (j / 4)) else if j % 4=2 then i_ j_ (M (j / 4)) else t_ (S (j / 4))
theorem opV_0 (K N M:Nat→Int) (S:Nat→ByteArray) (i:Nat):xe K N M S (i * 4)=i_ j_ (K i):=by
 have e:i * 4 % 4=0:=by omega
 have d:i * 4 / 4=i:=by omega
 simp [xe,d]
theorem opV_1 (K N M:Nat→Int) (S:Nat→ByteArray) (i:Nat):xe K N M S (i * 4+1)=i_ j_ (N i):=by
 have e:(i * 4+1) % 4=1:=by omega
 have d:(i * 4+1) / 4=i:=by omega
 simp [xe,e,d]
theorem opV_2 (K N M:Nat→Int) (S:Nat→ByteArray) (i:Nat):xe K N M S (i * 4+2)=i_ j_ (M i):=by
 have e:(i * 4+2) % 4=2:=by omega
 have d:(i * 4+2) / 4=i:=by omega
 simp [xe,e,d]
theorem opV_3 (K N M:Nat→Int) (S:Nat→ByteArray) (i:Nat):xe K N M S (i * 4+3)=t_ (S i):=by
 have e:(i * 4+3) % 4=3:=by omega
 have d:(i * 4+3) / 4=i:=by omega
 simp [xe,e,d]
end
section
open Go
section
variable {P:Program} {md:Region.Mode} {ops:Array Oper} {Q:Exit→Act→w_→Prop} {S:w_→Prop}
theorem ty {oi:Oper} {v:v_} {fuel:Nat} {RV:Array Bool} {a:Act} (d:Option Tmp) (hi:ops[ops.size - (fuel+1)]? =o_ oi) (_hd:oi.dst=d) (hc:Jj md ops RV (ops.size - (fuel+1)) oi d=true)
  (hQ: ∀ c a w,Q (.panic c) (a.put d v) w→Q (.panic c) a w) (hy:Does P ops S oi v a)
  (h:gR P md ops Q S fuel (RV.setIfInBounds (ops.size - (fuel+1)) true) (a.put d v)):gR P md ops Q S (fuel+1) RV a:=tm (ops.size - (fuel+1)) d hi hc hQ hy h
theorem ly {L:Nat} (n:Nat) {oi:Oper} {v:v_} {fuel:Nat} {RV:Array Bool} {a:Act} (d:Option Tmp) (hi:ops[ops.size - (fuel+1)]? =o_ oi) (_hd:oi.dst=d) (hc:lsB md ops RV (ops.size - (fuel+1)) L n oi d=true)
  (hQ: ∀ c a w,Q (.panic c) (a.put d v) w→Q (.panic c) a w) (hy:Does P ops S oi v a)
  (h:kS P md ops Q S L fuel (RV.setIfInBounds (ops.size - (fuel+1)) true) (a.put d v)):kS P md ops Q S L (fuel+1) RV a:=ls (ops.size - (fuel+1)) n d hi hc hQ hy h
theorem yl {oi:Oper} {v:v_} {fuel:Nat} {RV:Array Bool} {a:Act} {d:Tmp} (hy: ∀ w,S w→(execOp a.eval oi).run P w= .ok (.value v) w)
  (h:gR P md ops Q S fuel (RV.setIfInBounds (ops.size - (fuel+1)) true) (a.put (o_ d) v)) (hi:ops[ops.size - (fuel+1)]? =o_ oi:=by rfl) (_hd:oi.dst=o_ d:=by rfl) (hc:Jj md ops RV (ops.size - (fuel+1)) oi (o_ d)=true:=by kernel_rfl)
  (hQ: ∀ c a w,Q (.panic c) (a.put (o_ d) v) w→Q (.panic c) a w:=by exact fun _ _ _ h=>h) (hw:Region.wanted oi (yielded ops a.tmps)=true:=by kernel_rfl):gR P md ops Q S (fuel+1) RV a:=tm (ops.size - (fuel+1)) (o_ d) hi hc hQ (bV hw hy) h
theorem PI {oi:Oper} {v:v_} {fuel:Nat} {RV:Array Bool} {a a':Act} {d:Tmp} (h:gR P md ops Q S fuel (RV.setIfInBounds (ops.size - (fuel+1)) true) a')
  (hi:ops[ops.size - (fuel+1)]? =o_ oi:=by rfl) (hd:oi.dst=o_ d:=by rfl) (hy: ∀ w,S w→(execOp a.eval oi).run P w= .ok (.value v) w:=by intro w0 hS0; go_simp; try with_reducible rfl) (hc:Jj md ops RV (ops.size - (fuel+1)) oi (o_ d)=true:=by kernel_rfl)
  (hQ: ∀ c a w,Q (.panic c) (a.put (o_ d) v) w→Q (.panic c) a w:=by exact fun _ _ _ h=>h) (hw:Region.wanted oi (yielded ops a.tmps)=true:=by kernel_rfl) (ha:a.put (o_ d) v=a':=by simp only [pt,sb,s0,s1]; rfl):gR P md ops Q S (fuel+1) RV a:=
 yl hy Zdh hi hd hc hQ hw
theorem agj {oi:Oper} {v:v_} {fuel:Nat} {RV:Array Bool} {a a':Act} {d:Tmp} (h:gR P md ops Q S fuel (RV.setIfInBounds (ops.size - (fuel+1)) true) a')
  (hi:ops[ops.size - (fuel+1)]? =o_ oi:=by rfl) (hd:oi.dst=o_ d:=by rfl) (hy: ∀ w,S w→(execOp a.eval oi).run P w= .ok (.value v) w:=by intro w0 hS0; (first | subst hS0 | obtain ⟨⟨q0,q1,q2,q3,q4,q5,q6,q7,q8,q9,kY,kV,lB,lz,Ch⟩,hH⟩:=hS0 | obtain ⟨⟨q0,q1,q2,q3,q4,q5,q6,q7⟩,hH⟩:=hS0 | obtain ⟨⟨q0,q1,q2,q3,q4,q5⟩,hH⟩:=hS0 | obtain ⟨⟨q0,q1,q2,q3,q4⟩,hH⟩:=hS0); go_simp; try with_reducible rfl) (hc:Jj md ops RV (ops.size - (fuel+1)) oi (o_ d)=true:=by kernel_rfl)
  (hQ: ∀ c a w,Q (.panic c) (a.put (o_ d) v) w→Q (.panic c) a w:=by exact fun _ _ _ h=>h) (hw:Region.wanted oi (yielded ops a.tmps)=true:=by kernel_rfl) (ha:a.put (o_ d) v=a':=by simp only [pt,sb,s0,s1]; rfl):gR P md ops Q S (fuel+1) RV a:=
 yl hy Zdh hi hd hc hQ hw
theorem nl {oi:Oper} {fuel:Nat} {RV:Array Bool} {a:Act} {d:Tmp}
  (h:gR P md ops Q S fuel (RV.setIfInBounds (ops.size - (fuel+1)) true) (a.put (o_ d) undef)) (hi:ops[ops.size - (fuel+1)]? =o_ oi:=by rfl) (_hd:oi.dst=o_ d:=by rfl) (hc:Jj md ops RV (ops.size - (fuel+1)) oi (o_ d)=true:=by kernel_rfl)
  (hQ: ∀ c a w,Q (.panic c) (a.put (o_ d) undef) w→Q (.panic c) a w:=by exact fun _ _ _ h=>h) (hw:Region.wanted oi (yielded ops a.tmps)=false:=by kernel_rfl):gR P md ops Q S (fuel+1) RV a:=tm (ops.size - (fuel+1)) (o_ d) hi hc hQ (np hw) h
theorem cl (v:v_) (f:FuncId) (args:Array v_) {oi:Oper} {fuel:Nat} {RV:Array Bool} {a:Act} {d:Tmp} (hy: ∀ w,S w→(execOp a.eval oi).run P w= .ok (.enter f args) w) (hf: ∀ w,S w→k_ P f args w (fun e w'=>e=r_ v∧S w'))
  (h:gR P md ops Q S fuel (RV.setIfInBounds (ops.size - (fuel+1)) true) (a.put (o_ d) v)) (hi:ops[ops.size - (fuel+1)]? =o_ oi:=by rfl) (_hd:oi.dst=o_ d:=by rfl) (hc:Jj md ops RV (ops.size - (fuel+1)) oi (o_ d)=true:=by kernel_rfl)
  (hQ: ∀ c a w,Q (.panic c) (a.put (o_ d) v) w→Q (.panic c) a w:=by exact fun _ _ _ h=>h) (hw:Region.wanted oi (yielded ops a.tmps)=true:=by kernel_rfl):gR P md ops Q S (fuel+1) RV a:=tm (ops.size - (fuel+1)) (o_ d) hi hc hQ (iZ hw hy hf) h
end
end
section
open Go.RowKit
def Ij (n:Int):ByteArray:=⟨(Lib.itoa n).toArray⟩
theorem F7 {n:Int} (h:0≤n):Lib.itoa n=Lib.decDigits n.toNat:=by
 unfold Lib.itoa;rw [if_neg (by omega)]
theorem DX: ∀ (k u:Nat),u < 10 ^ (k+1)→(Lib.decDigits u).length≤k+1
 | 0,u,h=>by rw [Lib.decDigits,dif_pos (by simpa using h)]; simp
 | k+1,u,h=>by
  by_cases h1:u < 10
  ·rw [Lib.decDigits,dif_pos h1]; simp
  ·rw [Lib.decDigits,dif_neg h1]
   have:=DX k (u / 10) (by rw [Nat.pow_succ] at h; omega)
   simp; omega
theorem Fk {n:Int} (h:n≤9999999999):(Lib.decDigits n.toNat).length≤10:=DX 9 _ ZcJ
theorem GP {a n:Int} {s:ByteArray} (h10:10≤a) (h:Lib.decDigits a.toNat ++ s.data.toList=Lib.decDigits n.toNat):
  Lib.decDigits (a / 10).toNat ++ ((⟨#[UInt8.ofNat (48+a % 10).toNat]⟩:ByteArray) ++ s).data.toList=Lib.decDigits n.toNat:=by
 rw [← h,Lib.decDigits.eq_def a.toNat,dif_neg (by omega)];have e1:(a / 10).toNat=a.toNat / 10:=by omega
 have e2:(48+a % 10).toNat=48+a.toNat % 10:=by omega
 simp [e1,e2,ByteArray.data_append]
theorem Gx (W:w_) (c:Int):(convert 22 9 (s_ (o_ ⟨W.heap.size,0,n_⟩) 1 1)).run J3 (W.alloc (c_ #[i_ .u8 c] 5))= .ok (t_ ⟨#[UInt8.ofNat c.toNat]⟩) (W.alloc (c_ #[i_ .u8 c] 5)):=by
 rw [run_convert_bytes_string _ 22 9 5 _ 1 1 underlying22 underlying5 underlying9];rw [run_bytesToString _ ⟨W.heap.size,0,n_⟩ 1 1 [c] (by simp [go_sem])];rfl

end
section
open Go
section
variable {P:Program} {ops:Array Oper} {Q:Exit→Act→w_→Prop} {md:Region.Mode} {S:w_→Prop}
def zK (l:Array Bool):Nat:=l.toList.count false
theorem cX {l:Array Bool} {i:Nat} (h:i∈Region.ready md ops l):l[i]? =o_ false:=by
 simp only [Region.ready,L2,J7,PR] at h;have h1:=h.2.1;rw [adY] at h1;cases h2:l[i]? with
 | none=>rw [h2] at h1; simp at h1
 | some b=>rw [h2] at h1; simp at h1; rw [h1]
def D8 (md:Region.Mode) (ops:Array Oper) (i:Nat):List Nat:=((ops[i]?).map fun o=>(o.after.toList.filter fun e=>Region.binds md e).map fun e=>e.on).getD []
theorem hF {l:Array Bool} {i:Nat} (ns:List Nat) (h:i∈Region.ready md ops l) (hn:D8 md ops i=ns): ∀ j∈ns,l[j]? =o_ true:=fun j hj=>by
 simp only [Region.ready,L2,J7] at h;have h1:=h.2.2;subst hn;unfold D8 at hj;cases ho:ops[i]? with
 | none=>rw [ho] at hj; simp at hj
 | some o=>
  rw [ho] at hj h1;simp only [J9,Ka,Lr,L2] at hj h1;obtain ⟨e,⟨he,hb⟩,rfl⟩:=hj;rw [aeb] at h1;have h2:=h1 e (by simpa using he);simp only [hb,Bool.not_true,Qg,adY] at h2;cases h3:l[e.on]? with
  | none=>rw [h3] at h2; simp at h2
  | some b=>rw [h3] at h2; simp at h2; rw [h2]
theorem jW {l:Array Bool} {i:Nat} (ns:List Nat) (hi:decide (i < ops.size)=true) (hn:D8 md ops i=ns) (hf:l[i]? =o_ false) (hd: ∀ j∈ns,l[j]? =o_ true):i∈Region.ready md ops l:=by
 have hi':=of_decide_eq_true hi;simp only [Region.ready,L2,List.mem_range,J7,PR,adY,hf,Ka,true_and];refine ⟨hi',?_⟩;subst hn;rw [Qb hi'] at *;simp only [D8,Qb hi',J9,Ka] at hd ⊢;rw [aeb];intro e he;cases hb:Region.binds md e with
 | false=>simp
 | true=>
  have:=hd e.on (Lr.2 ⟨e,L2.2 ⟨by simpa using he,hb⟩,rfl⟩)
  simp [this]
theorem count_set: ∀ {q:List Bool} {i:Nat},q[i]? =o_ false→(q.set i true).count false+1=q.count false
 | [],_,h=>by simp at h
 | b :: r,0,h=>by
  simp only [List.getElem?_cons_zero,LF] at h;subst h;simp
 | b :: r,i+1,h=>by
  simp only [List.getElem?_cons_succ] at h
  have:=count_set h
  simp only [List.set_cons_succ,List.count_cons];omega
theorem vr {l:Array Bool} {i:Nat} (h:l[i]? =o_ false):zK (l.setIfInBounds i true)+1=zK l:=by
 unfold zK;rw [Array.toList_setIfInBounds];exact count_set (by rw [Array.getElem?_toList]; exact h)
theorem tk (i:Nat) {oi:Oper} {v:v_} {fuel:Nat} {RV:Array Bool} {a:Act} {w:w_} {d:Tmp} (hy: ∀ w,S w→(execOp a.eval oi).run P w= .ok (.value v) w) (hS:S w)
  (h:wpAnyH P md ops Q S fuel (RV.setIfInBounds i true) (a.put (o_ d) v) w) (hi:ops[i]? =o_ oi:=by rfl) (hd:oi.dst=o_ d:=by rfl) (h1:Region.noSelect ops=true:=by kernel_rfl) (h2:Region.free md ops RV i=true:=by kernel_rfl) (h3:(Region.ready md ops RV).contains i=true:=by kernel_rfl)
  (hQ: ∀ c a w,Q (.panic c) (a.put (o_ d) v) w→Q (.panic c) a w:=by exact fun _ _ _ h=>h) (hw:Region.wanted oi (yielded ops a.tmps)=true:=by kernel_rfl):wpAnyH P md ops Q S (fuel+1) RV a w:=by
 rw [← hd] at h hQ;exact wpAnyH_take (i:=i) hi h1 h2 h3 hQ (.inl ⟨hw,hy⟩) hS h
theorem tt (i:Nat) {oi:Oper} {v:v_} {fuel:Nat} {RV:Array Bool} {a a':Act} {w:w_} {d:Tmp} (hS:S w) (h:wpAnyH P md ops Q S fuel (RV.setIfInBounds i true) a' w) (hi:ops[i]? =o_ oi:=by rfl) (hd:oi.dst=o_ d:=by rfl)
  (hy: ∀ w,S w→(execOp a.eval oi).run P w= .ok (.value v) w:=by intro w0 hS0; go_simp; try with_reducible rfl) (h1:Region.noSelect ops=true:=by kernel_rfl) (h2:Region.free md ops RV i=true:=by kernel_rfl) (h3:(Region.ready md ops RV).contains i=true:=by kernel_rfl)
  (hQ: ∀ c a w,Q (.panic c) (a.put (o_ d) v) w→Q (.panic c) a w:=by exact fun _ _ _ h=>h) (hw:Region.wanted oi (yielded ops a.tmps)=true:=by kernel_rfl) (ha:a.put (o_ d) v=a':=by simp only [pt,sb,s0,s1]; rfl):wpAnyH P md ops Q S (fuel+1) RV a w:=
 tk i hy hS Zdh hi hd h1 h2 h3 hQ hw
theorem afJ (i:Nat) {oi:Oper} {v:v_} {fuel:Nat} {RV:Array Bool} {a a':Act} {w:w_} {d:Tmp} (hS:S w) (h:wpAnyH P md ops Q S fuel (RV.setIfInBounds i true) a' w) (hi:ops[i]? =o_ oi:=by rfl) (hd:oi.dst=o_ d:=by rfl)
  (hy: ∀ w,S w→(execOp a.eval oi).run P w= .ok (.value v) w:=by intro w0 hS0; (try have x1:=agb hS0); (try have x1:=agb hS0.1); (try have x2:=ia hS0.2); (try have x2:=gE hS0.2); (try have x2:=bo hS0); (try have x2:=bo hS0.1); go_simp; try with_reducible rfl) (h1:Region.noSelect ops=true:=by kernel_rfl) (h2:Region.free md ops RV i=true:=by kernel_rfl) (h3:(Region.ready md ops RV).contains i=true:=by kernel_rfl)
  (hQ: ∀ c a w,Q (.panic c) (a.put (o_ d) v) w→Q (.panic c) a w:=by exact fun _ _ _ h=>h) (hw:Region.wanted oi (yielded ops a.tmps)=true:=by kernel_rfl) (ha:a.put (o_ d) v=a':=by simp only [pt,sb,s0,s1]; rfl):wpAnyH P md ops Q S (fuel+1) RV a w:=
 tk i hy hS Zdh hi hd h1 h2 h3 hQ hw
theorem cellAt {w:w_} {X i:Nat} {cs:Array v_} {T:T_} {v:v_} (h:w.heap[X]? =o_ (c_ cs T)) (hv:cs[i]? =o_ v):w.cell? ⟨X,i,n_⟩=o_ v:=by simp [World.cell?,h,hv]
theorem agi (i:Nat) {oi:Oper} {v:v_} {fuel:Nat} {RV:Array Bool} {a a':Act} {w:w_} {d:Tmp} (hS:S w) (h:wpAnyH P md ops Q S fuel (RV.setIfInBounds i true) a' w) (hi:ops[i]? =o_ oi:=by rfl) (hd:oi.dst=o_ d:=by rfl)
  (hy: ∀ w,S w→(execOp a.eval oi).run P w= .ok (.value v) w:=by intro w0 hS0; (first | (have q0:=hS0.1.cells.2.2.2.2.2.2.2; rw [HG.I] at q0) | (have q0:=hS0.1.cells.2.2.2.2.2.2.1; rw [HG.I] at q0)); (try (have q5:=hS0.1.cells.2.2.1; rw [ud.I] at q5; have q7:=hS0.2)); (try have q3:=hS0.2.1.cells.2.2.2); (first | have q4:=cellAt (i:=4) hS0.2.2 rfl | have q4:=cellAt (i:=2) hS0.2.2 rfl | have q4:=cellAt (i:=4) hS0.2 rfl | have q4:=cellAt (i:=2) hS0.2 rfl | skip); (try simp only at q3); go_simp; try with_reducible rfl) (h1:Region.noSelect ops=true:=by kernel_rfl) (h2:Region.free md ops RV i=true:=by kernel_rfl) (h3:(Region.ready md ops RV).contains i=true:=by kernel_rfl)
  (hQ: ∀ c a w,Q (.panic c) (a.put (o_ d) v) w→Q (.panic c) a w:=by exact fun _ _ _ h=>h) (hw:Region.wanted oi (yielded ops a.tmps)=true:=by kernel_rfl) (ha:a.put (o_ d) v=a':=by simp only [pt,sb,s0,s1]; rfl):wpAnyH P md ops Q S (fuel+1) RV a w:=
 tk i hy hS Zdh hi hd h1 h2 h3 hQ hw
theorem L7 (i:Nat) {o:Oper} {fuel:Nat} {RV:Array Bool} {a:Act} {w:w_} (h: ∀ K':Act→w_→Prop,Shut (∀ a w,S w→(S w→wpAnyH P md ops Q S fuel (RV.setIfInBounds i true) a w)→K' a w)→Oper.wp P o a w K' Q)
  (hr:Region.ready md ops RV= [i] :=by kernel_rfl) (ho:ops.toList[i]? =o_ o:=by rfl) (hw:Region.wanted o (yielded ops a.tmps)=true:=by kernel_rfl):wpAnyH P md ops Q S (fuel+1) RV a w:=
 wpAnyH_ready hr (by simp) (KX (by rw [← ho]; simp) (fun K' hK=>by rw [if_pos hw]; exact h K' hK) KY)
theorem ln {i:Nat} {o:Oper} {K:Act→w_→Prop} {a:Act} {w:w_} (ho:ops[i]? =o_ o) (hw:Region.wanted o (yielded ops a.tmps)=true)
  (h: ∀ K':Act→w_→Prop,Shut (∀ a w,K a w→K' a w)→Oper.wp P o a w K' Q):wpOp P ops Q i K a w:=
 wpOp_step ho fun K' hK=>by
  rw [if_pos hw];exact h K' hK
theorem wild (Inv:Array Bool→Act→w_→Prop) (hS: ∀ l a w,Inv l a w→S w) (hstep: ∀ l a w,Inv l a w→ ∀ i∈Region.ready md ops l,wpOp P ops Q i (Inv (l.setIfInBounds i true)) a w)
  (hend: ∀ l a w,Inv l a w→Region.ready md ops l= [] →Q .normal a w): ∀ (fuel:Nat) (l:Array Bool) (a:Act) (w:w_),Inv l a w→zK l≤fuel→wpAnyH P md ops Q S fuel l a w
 | 0,l,a,w,h,hu=>by
  have h0:Region.ready md ops l= [] :=List.eq_nil_iff_forall_not_mem.2 fun i hi=>by
   have:=vr (cX hi)
   omega
  exact ⟨h0,hend _ _ _ h h0⟩
 | fuel+1,l,a,w,h,hu=>⟨fun h0=>hend _ _ _ h h0,fun i hi=>Qd (fun a' w' h'=>⟨hS _ _ _ h',wild Inv hS hstep hend fuel _ a' w' h' (by have:=vr (cX hi); omega)⟩) (hstep _ _ _ h i hi)⟩
end
theorem bL {P:Program} {fn:Func} {p u:Tmp} {ty:TypeId} (h:fn.results= #[.cell p ty,.tmp u]) (tmps:Array Value) (w:World) (g:Nat) (t:TypeId) (cs:Array Value) (fr:Nat × Nat) (d:TypeDesc)
  (hp:tmps.getD p undef= .pointer (some ⟨g,0,none⟩)) (hg:w.heap[g]? =some (.cells cs t fr))
  (hu:P.underlying ty=some d) (hd:(match d with | .struct _ | .array _ _=>true | _=>false)=true) (hi:(P.info? ty).map (·.size)=some cs.size):
  (results fn tmps).run P w= .ok (.tuple #[.agg cs,tmps.getD u undef]) w:=by
 rw [results_cell_tmp h,hp];simp [asAddr,run_loadVar_row w g t ty cs fr d hg hu hd hi]
end
section
open Go.RowKit
structure gG (r:Nat) (w w':w_):Prop where
 os:w'.os=w.os
 tape:w'.tape=w.tape
 output:w'.output=w.output
 size:w.heap.size≤w'.heap.size
 block: ∀ k,k < w.heap.size→k≠r→w'.heap[k]? =w.heap[k]?
theorem gG.refl (r:Nat) (w:w_):gG r w w:=⟨rfl,rfl,rfl,Ki _,fun _ _ _=>rfl⟩
theorem gG.trans {r:Nat} {a b c:w_} (h:gG r a b) (k:gG r b c):gG r a c:=
 ⟨k.os.trans h.os,k.tape.trans h.tape,k.output.trans h.output,LG h.size k.size,fun i hi hr=>(k.block i (Kn hi h.size) hr).trans (h.block i hi hr)⟩
theorem gG.drew {r:Nat} {a w:w_} (h:gG r a w):gG r a w.drew:=⟨h.os,h.tape,h.output,h.size,h.block⟩
theorem gG.setCell {r:Nat} {a w:w_} (h:gG r a w) (i:Nat) (v:v_):gG r a (w.setCell ⟨r,i,n_⟩ v):=
 h.trans ⟨rfl,rfl,rfl,by simp,fun k _ hr=>K6 _ _ _ _ hr⟩
theorem gG.dI {r:Nat} {w w':w_} (h:B_ w.heap.size w w'):gG r w w':=⟨h.os,h.tape,h.output,h.size,fun k hk _=>h.block k hk⟩
theorem gG.below {r B:Nat} {w w':w_} (h:gG r w w') (hr:B≤r) (hB:B≤w.heap.size):B_ B w w':=⟨h.os,h.tape,h.output,h.size,fun k hk=>h.block k (by omega) (by omega)⟩
theorem gG.alloc {r:Nat} {a w:w_} (h:gG r a w) (o:Obj):gG r a (w.alloc o):=h.trans (gG.dI ((Kp _ _).alloc (Ki _) _))
theorem gG.cell {r:Nat} {w w':w_} (h:gG r w w') {p:d_} (hp:p.block < w.heap.size) (hr:p.block≠r):w'.cell? p=w.cell? p:=J1 (w:=w) (h.block p.block hp hr)
def Buf (w:w_) (r:Nat) (a:Option d_) (len:Nat):Prop:=len=0∨ ∃ b off,a=o_ ⟨b,off,n_⟩∧b≠r∧ ∀ i,i < len→ ∃ v:Int,w.cell? ⟨b,off+i,n_⟩=o_ (i_ .u8 v)∧0≤v∧v≤255
def Rd (r:Nat) (a:Option d_) (len cap:Nat) (w:w_):Prop:=(∃ p:Nat,p≤len∧w.heap[r]? =o_ (c_ #[s_ a len cap,i_ j_ p] 104))∧Buf w r a len
theorem Buf.but {w w':w_} {r:Nat} {a:Option d_} {len:Nat} (h:Buf w r a len) (hb:gG r w w'):Buf w' r a len:=by
 rcases h with h | ⟨b,off,e,hr,hc⟩
 ·exact .inl h
 ·refine .inr ⟨b,off,e,hr,fun i hi=> ?_⟩
  obtain ⟨v,hv,hv'⟩:=hc i hi;exact ⟨v,(hb.cell (p:=⟨b,off+i,n_⟩) (Le hv) hr).trans hv,hv'⟩
theorem Rd.lt {r:Nat} {a:Option d_} {len cap:Nat} {w:w_} (h:Rd r a len cap w):r < w.heap.size:=by
 obtain ⟨⟨p,_,hp⟩,_⟩:=h;exact (J2.1 hp).1
theorem Rd.below {r:Nat} {a:Option d_} {len cap:Nat} {w w':w_} (h:Rd r a len cap w) (hb:B_ w.heap.size w w'):Rd r a len cap w':=by
 have hl:=h.lt;obtain ⟨⟨p,h1,hp⟩,hbuf⟩:=h;exact ⟨⟨p,h1,(hb.block _ hl).trans hp⟩,hbuf.but (gG.dI hb)⟩
theorem A9 (r:Nat) (a:Option d_) (len cap:Nat) (w:w_) (hl:len≤1048576) (h:Rd r a len cap w):
  k_ J3 75 #[p_ (o_ ⟨r,0,n_⟩)] w fun e w'=> ∃ v:Int,0≤v∧v≤255∧e=r_ (i_ j_ v)∧gG r w w'∧Rd r a len cap w':=by
 obtain ⟨⟨p,hp,hr⟩,hb⟩:=h;have c0:w.cell? ⟨r,0,n_⟩=o_ (s_ a len cap):=by simp [World.cell?,hr]
 have c1:w.cell? ⟨r,1,n_⟩=o_ (i_ j_ p):=by simp [World.cell?,hr]
 have f1:w.frozen? ⟨r,1,n_⟩=false:=Ko w _ _ _ _ hr;have HR:Hid (w.heap[r]? =o_ (c_ #[s_ a len cap,i_ j_ p] 104)):=hr;have HB:Hid (Buf w r a len):=hb;clear hr hb;by_cases hlt:len≤p
 ·have hd:decide ((len:Int)≤(p:Int))=true:=by simp; omega
  go_enter func75,ntmps75
  go_wp2
  go_region_held3 (fun w'=>w'.cell? ⟨r,0,n_⟩=o_ (s_ a len cap)∧w'.cell? ⟨r,1,n_⟩=o_ (i_ j_ p)) (go_keep) (fail)
  go_wp2;go_ret;exact ⟨0,by omega,by omega,rfl,(gG.refl _ _).drew,⟨p,hp,HR.I⟩,HB.I.but (gG.refl _ _).drew⟩
 ·have hd:decide ((len:Int)≤(p:Int))=false:=by simp; omega
  rcases HB.I with h0 | ⟨b,off,rfl,hbr,hc⟩
  ·omega
  obtain ⟨v,hv,v0,v1⟩:=hc p (by omega);have xc:=Le hv;have hpw:IntKind.i64.wrap (p:Int)=(p:Int):=by rw [K8]; omega
  have hbr': ¬ r=b:=fun e=>hbr e.symm
  have i0:(0:Int)≤(p:Int):=by omega
  have i1:(p:Int) < (len:Int):=by omega
  clear hc
  go_enter func75,ntmps75
  go_wp2
  go_region_held3 (fun w'=>w'.cell? ⟨r,0,n_⟩=o_ (s_ (o_ ⟨b,off,n_⟩) len cap)∧w'.cell? ⟨r,1,n_⟩=o_ (i_ j_ p)) (go_keep) (fail)
  go_wp2;have k0:(w.setCell ⟨r,1,n_⟩ (i_ j_ ((p:Int)+1))).cell? ⟨r,0,n_⟩=o_ (s_ (o_ ⟨b,off,n_⟩) len cap):=by rw [World.cell?_setCell_other _ _ _ _ (by simp)]; exact c0
  have k1:(w.setCell ⟨r,1,n_⟩ (i_ j_ ((p:Int)+1))).cell? ⟨r,1,n_⟩=o_ (i_ j_ ((p:Int)+1)):=World.cell?_setCell_same' _ _ _ (by rw [c1]; rfl);have k2:(w.setCell ⟨r,1,n_⟩ (i_ j_ ((p:Int)+1))).cell? ⟨b,off+p,n_⟩=o_ (i_ .u8 v):=by rw [World.cell?_setCell_other _ _ _ _ (by intro h; have:=congrArg Addr.block h; simp at this; omega)]; exact hv
  have k3:(w.setCell ⟨r,1,n_⟩ (i_ j_ ((p:Int)+1))).heap[r]? =o_ (c_ #[s_ (o_ ⟨b,off,n_⟩) len cap,i_ j_ ((p:Int)+1)] 104):=K7 _ _ _ _ _ _ HR.I;have HK:Hid ((w.setCell ⟨r,1,n_⟩ (i_ j_ ((p:Int)+1))).heap[r]? =o_ (c_ #[s_ (o_ ⟨b,off,n_⟩) len cap,i_ j_ ((p:Int)+1)] 104)∧gG r w (w.setCell ⟨r,1,n_⟩ (i_ j_ ((p:Int)+1)))):=⟨k3,(gG.refl _ _).setCell _ _⟩
  clear k3 c0 c1 hv f1;generalize w.setCell ⟨r,1,n_⟩ (i_ j_ ((p:Int)+1))=W1 at *
  go_region_held3 (fun w'=>w'.cell? ⟨r,0,n_⟩=o_ (s_ (o_ ⟨b,off,n_⟩) len cap)∧w'.cell? ⟨r,1,n_⟩=o_ (i_ j_ ((p:Int)+1))∧w'.cell? ⟨b,off+p,n_⟩=o_ (i_ .u8 v)) (go_keep) (fail)
  have hvw:IntKind.i64.wrap v=v:=by rw [K8]; omega
  go_wp2;go_ret;exact ⟨v,v0,v1,ck (by first | rfl | exact hvw),HK.I.2.drew.drew,⟨p+1,by omega,by have:=HK.I.1; exact this⟩,HB.I.but HK.I.2.drew.drew⟩
theorem dh (r:Nat) (a:Option d_) (len cap:Nat) (n:Int) (w:w_) (hl:len≤1048576) (n0:2≤n) (n1:n≤256) (h:Rd r a len cap w):
  k_ J3 37 #[p_ (o_ ⟨r,0,n_⟩),i_ j_ n] w fun e w'=> ∃ v:Int,0≤v∧v < n∧e=r_ (i_ j_ v)∧gG r w w'∧Rd r a len cap w':=by
 have k1: ¬ n≤1:=by omega
 have k2: ¬ n=0:=by omega
 go_enter func37,ntmps37
 go_wp2_with fail;refine (A9 r a len cap _ hl h).mono ?_;rintro e w1 ⟨v,v0,v1,rfl,hb,hr⟩;have m0:0≤v % n:=Int.emod_nonneg _ k2;have m1:v % n < n:=Int.emod_lt_of_pos _ (by omega);go_wp2;go_ret;exact ⟨v % n,m0,m1,rfl,hb,hr⟩
theorem jt (r:Nat) (a:Option d_) (len cap:Nat) (n:Int) (w:w_) (hl:len≤1048576) (n0:2≤n) (n1:n≤256) (h:Rd r a len cap w):
  k_ J3 38 #[p_ (o_ ⟨r,0,n_⟩),i_ j_ n] w fun e w'=> ∃ v:Bool,e=r_ (b_ v)∧gG r w w'∧Rd r a len cap w':=by
 go_enter func38,ntmps38
 go_wp2_with fail;refine (dh r a len cap n _ hl n0 n1 h).mono ?_;rintro e w1 ⟨v,v0,v1,rfl,hb,hr⟩;go_wp2;go_ret;exact ⟨_,rfl,hb,hr⟩
theorem BO (r:Nat) (a:Option d_) (len cap:Nat) (w:w_) (hl:len≤1048576) (h:Rd r a len cap w):
  k_ J3 111 #[p_ (o_ ⟨r,0,n_⟩)] w fun e w'=> ∃ v:Int,e=r_ (i_ .u64 v)∧gG r w w'∧Rd r a len cap w':=by
 go_enter func111,ntmps111
 go_wp2
 go_loopw [3,4] (fun x i wr=> ∃ (k:Nat) (y:Int),k≤8∧i=i_ j_ k∧x=i_ .u64 y∧gG r w wr∧Rd r a len cap wr) (fun _ i _=>8 - (intOf i).toNat)
 case atStart=>exact ⟨0,0,by omega,rfl,rfl,gG.refl _ _,h⟩
 case round=>
  obtain ⟨k,y,hk,rfl,rfl,hb,hr⟩:=hrel;by_cases hlt:k < 8
  ·go_wp2_with fail
   refine (A9 r a len cap _ hl hr).mono ?_;rintro e w1 ⟨v,v0,v1,rfl,hb1,hr1⟩;go_wp2;go_roundw
   case rel=>exact ⟨k+1,_,by omega,by go_num,rfl,hb.trans hb1,hr1⟩
   case measure=>simp [intOf]; omega
  ·go_wp2
   go_ret;exact ⟨y,rfl,hb,hr⟩
theorem FM (r:Nat) (a:Option d_) (len cap:Nat) (low high:Int) (w:w_) (hl:len≤1048576) (l0: -1≤low) (l1:low≤high) (l2:high≤1000000000) (h:Rd r a len cap w):
  k_ J3 76 #[p_ (o_ ⟨r,0,n_⟩),i_ j_ low,i_ j_ high] w fun e w'=> ∃ v:Int,e=r_ (i_ j_ v)∧gG r w w'∧Rd r a len cap w':=by
 have k1: ¬ high < low:=by omega
 have k2: ¬ high - low+1=0:=by omega
 go_enter func76,ntmps76
 go_wp2_with fail;refine (dh r a len cap 8 _ hl (by omega) (by omega) h).mono ?_;rintro e w1 ⟨v,v0,v1,rfl,hb,hr⟩;by_cases e0:v=0
 ·have b0:(v == 0)=true:=by simp [e0]
  go_wp2;go_ret;exact ⟨_,rfl,hb,hr⟩
 have b0:(v == 0)=false:=by simp [e0]
 by_cases e1:v=1
 ·have b1:(v == 1)=true:=by simp [e1]
  go_wp2;go_ret;exact ⟨_,rfl,hb,hr⟩
 have b1:(v == 1)=false:=by simp [e1]
 go_wp2_with fail;refine (BO r a len cap _ hl hr).mono ?_;exact ZaY
theorem pj (r:Nat) (a:Option d_) (len cap:Nat) (low high:Int) (w:w_) (hl:len≤1048576) (l0: -1≤low) (l1:low≤high) (l2:high≤1000000000) (h:Rd r a len cap w):
  k_ J3 39 #[p_ (o_ ⟨r,0,n_⟩),i_ j_ low,i_ j_ high] w fun e w'=> ∃ v:Int,e=r_ (i_ j_ v)∧gG r w w'∧Rd r a len cap w':=by
 go_enter func39,ntmps39
 go_wp2_with fail;refine (jt r a len cap 24 _ hl (by omega) (by omega) h).mono ?_;rintro e w1 ⟨v,rfl,hb,hr⟩;cases v with
 | true=>
  have rl:=hr.lt;go_wp2_with fail;refine (dh r a len cap 4 _ hl (by omega) (by omega) (hr.below ((Kp _ _).alloc (Ki _) _))).mono ?_;rintro e w2 ⟨v,v0,v1,rfl,hb2,hr2⟩;obtain ⟨n,rfl⟩:=Int.eq_ofNat_of_zero_le v0;have hn:n < 4:=by omega
  have hy: ∃ y,w2.cell? ⟨w1.heap.size,n,n_⟩=o_ (i_ j_ y):=by
   rw [hb2.cell (p:=⟨w1.heap.size,n,n_⟩) (by simp) ZcJ,World.cell?_alloc_new]
   match n,hn with
   | 0,_=>exact ⟨_,rfl⟩
   | 1,_=>exact ⟨_,rfl⟩
   | 2,_=>exact ⟨_,rfl⟩
   | 3,_=>exact ⟨_,rfl⟩
  obtain ⟨y,hy⟩:=hy;have HB:Hid (gG r w w2):=(hb.alloc _).trans hb2;clear hb2 hb;go_wp2;go_ret;exact ⟨y,rfl,HB.I,hr2⟩
 | false=>
  go_wp2_with fail;refine (FM r a len cap low high _ hl l0 l1 l2 hr).mono ?_;exact ZaY
theorem AJ {w w':w_} {base e size n r:Nat} {v:v_} {xs:List v_} (h:w.ownsRow base e size v n xs) (hb:gG r w w') (hr:r < base):w'.ownsRow base e size v n xs:=by
 obtain ⟨h1,h2⟩:=h;refine ⟨h1,?_⟩;rcases h2 with h2 | ⟨g,cap,cur,hv,hg,hh,rest⟩
 ·exact .inl h2
 ·exact .inr ⟨g,cap,cur,hv,hg,(hb.block g (J2.1 hh).1 (by omega)).trans hh,rest⟩
theorem gG.grown {r:Nat} {a w w':w_} {row:Option Nat} (h:gG r a w) (hg:w.grownBy w' row) (hr: ∀ k,row=o_ k→a.heap.size≤k):gG r a w':=
 ⟨hg.os.trans h.os,hg.tape.trans h.tape,hg.output.trans h.output,LG h.size hg.size,fun k hk hkr=>
  (hg.block k (Kn hk h.size) (fun e=>by have:=hr k e.symm; omega)).trans (h.block k hk hkr)⟩
theorem gG.alc {r:Nat} {w w':w_} (h:gG r w.drew w'):gG r w w':=⟨h.os,h.tape,h.output,h.size,h.block⟩
theorem gG.sF {r:Nat} {a w:w_} (h:gG r a w) (b i:Nat) (v:v_) (hb:a.heap.size≤b):gG r a (w.setCell ⟨b,i,n_⟩ v):=
 ⟨h.os,h.tape,h.output,by simpa using h.size,fun k hk hr=>(K6 _ _ _ _ ZcJ).trans (h.block k hk hr)⟩
def mn (id next:Int):v_:=a_ #[i_ j_ id,i_ j_ next,s_ n_ 0 0,s_ n_ 0 0,s_ n_ 0 0,s_ n_ 0 0,s_ n_ 0 0,s_ n_ 0 0]
theorem DG (a:Option d_) (len cap:Nat) (w:w_):k_ J3 7 #[s_ a len cap] w fun e w'=>e=r_ (b_ (decide (1048576 < len)))∧w'=w:=by
 by_cases h:1048576 < len
 ·have h':(1048576:Int) < (len:Int):=by omega
  go_enter func7,ntmps7
  go_wp2;go_ret;exact ⟨al (by simp [h]),rfl⟩
 ·have h': ¬ (1048576:Int) < (len:Int):=by omega
  go_enter func7,ntmps7
  go_wp2;go_ret;exact ⟨al (by simp),rfl⟩
def pJ (k:Int):Prop:=k=1∨k=2∨k=4∨k=5∨k=6∨k=11∨k=14∨k=15∨k=16
def mF (k:Int):Prop:=k=3∨k=7∨k=9∨k=12
def isText (k:Int):Prop:=k=10∨k=13
def bI (s:ByteArray):Bool:=s.toList.isEmpty
def mQ (k n m:Int) (s:ByteArray):Bool:=
 if k=1∨k=2∨k=4∨k=5∨k=6∨k=11∨k=14∨k=15∨k=16 then cv n 1 1000 && decide (m=0) && bI s
 else if k=3∨k=7∨k=9∨k=12 then cv n 1 1000 && cv m (-1) 1000 && bI s
 else if k=8 then cv n 1 1000 && cv m (-1) 1000 && bw s
 else if k=10∨k=13 then cv n 1 1000 && decide (m=0) && bw s
 else if k=17 then decide (n=0) && decide (m=0) && bI s
 else false
theorem Cr (k n m:Int) (s:ByteArray) (w:w_) (hk:pJ k):
  k_ J3 153 #[a_ #[i_ j_ k,i_ j_ n,i_ j_ m,t_ s]] w fun e w'=>e=r_ (b_ (mQ k n m s))∧B_ w.heap.size w w':=by
 rcases hk with rfl | rfl | rfl | rfl | rfl | rfl | rfl | rfl | rfl
 all_goals
  simp only [mQ,Int.reduceEq,or_true,or_false,or_self,if_true,if_false]
  go_enter func153,ntmps153
  go_wp2_with (go_at_call 27; refine (dx _ _ _ _).mono ?_; rintro e w' ⟨rfl,rfl⟩)
  all_goals go_ret
  all_goals exact ⟨al (by simp_all [bI]),by go_grown⟩
theorem BH (k n m:Int) (s:ByteArray) (w:w_) (hk:mF k):
  k_ J3 153 #[a_ #[i_ j_ k,i_ j_ n,i_ j_ m,t_ s]] w fun e w'=>e=r_ (b_ (mQ k n m s))∧B_ w.heap.size w w':=by
 rcases hk with rfl | rfl | rfl | rfl
 all_goals
  simp only [mQ,Int.reduceEq,or_true,or_false,or_self,if_true,if_false]
  go_enter func153,ntmps153
  go_wp2_with (go_at_call 27; refine (dx _ _ _ _).mono ?_; rintro e w' ⟨rfl,rfl⟩)
  all_goals go_ret
  all_goals exact ⟨al (by simp_all [bI]),by go_grown⟩
theorem Bu (k n m:Int) (s:ByteArray) (w:w_) (hs:s.size≤1048576) (hk:isText k):
  k_ J3 153 #[a_ #[i_ j_ k,i_ j_ n,i_ j_ m,t_ s]] w fun e w'=>e=r_ (b_ (mQ k n m s))∧B_ w.heap.size w w':=by
 rcases hk with rfl | rfl
 all_goals
  simp only [mQ,Int.reduceEq,or_true,or_false,or_self,if_true,if_false]
  go_enter func153,ntmps153
  go_wp2_with (first | (go_at_call 27; refine (dx _ _ _ _).mono ?_; rintro e w' ⟨rfl,rfl⟩) | (go_at_call 101; refine (jC _ _ hs).mono ?_; rintro e w' ⟨rfl,rfl⟩))
  all_goals go_ret
  all_goals exact ⟨al (by simp_all),by go_grown⟩
theorem BZ (k n m:Int) (s:ByteArray) (w:w_) (hs:s.size≤1048576) (hk:k=8∨k=17):
  k_ J3 153 #[a_ #[i_ j_ k,i_ j_ n,i_ j_ m,t_ s]] w fun e w'=>e=r_ (b_ (mQ k n m s))∧B_ w.heap.size w w':=by
 rcases hk with rfl | rfl
 all_goals
  simp only [mQ,Int.reduceEq,or_self,if_true,if_false]
  go_enter func153,ntmps153
  go_wp2_with (first | (go_at_call 27; refine (dx _ _ _ _).mono ?_; rintro e w' ⟨rfl,rfl⟩) | (go_at_call 101; refine (jC _ _ hs).mono ?_; rintro e w' ⟨rfl,rfl⟩))
  all_goals go_ret
  all_goals exact ⟨al (by simp_all [bI]),by go_grown⟩
theorem Bd {k n m:Int} {s:ByteArray} (h: ¬ (1≤k∧k≤17)):mQ k n m s=false:=by
 unfold mQ;exact ZbD
theorem B9 (k n m:Int) (s:ByteArray) (w:w_) (hk: ¬ (1≤k∧k≤17)):
  k_ J3 153 #[a_ #[i_ j_ k,i_ j_ n,i_ j_ m,t_ s]] w fun e w'=>e=r_ (b_ (mQ k n m s))∧B_ w.heap.size w w':=by
 rw [Bd hk];have e1:(k == 1)=false:=by simp; omega
 have e2:(k == 2)=false:=by simp; omega
 have e3:(k == 3)=false:=by simp; omega
 have e4:(k == 4)=false:=by simp; omega
 have e5:(k == 5)=false:=by simp; omega
 have e6:(k == 6)=false:=by simp; omega
 have e7:(k == 7)=false:=by simp; omega
 have e8:(k == 8)=false:=by simp; omega
 have e9:(k == 9)=false:=by simp; omega
 have Pn:(k == 10)=false:=by simp; omega
 have e11:(k == 11)=false:=by simp; omega
 have PF:(k == 12)=false:=by simp; omega
 have PG:(k == 13)=false:=by simp; omega
 have e14:(k == 14)=false:=by simp; omega
 have e15:(k == 15)=false:=by simp; omega
 have e16:(k == 16)=false:=by simp; omega
 have PH:(k == 17)=false:=by simp; omega
 go_enter func153,ntmps153
 go_wp2_with (go_at_call 27; refine (dx _ _ _ _).mono ?_; rintro e w' ⟨rfl,rfl⟩);go_ret;exact ⟨rfl,by go_grown⟩
theorem xZ (k n m:Int) (s:ByteArray) (w:w_) (hs:s.size≤1048576):
  k_ J3 153 #[a_ #[i_ j_ k,i_ j_ n,i_ j_ m,t_ s]] w fun e w'=>e=r_ (b_ (mQ k n m s))∧B_ w.heap.size w w':=by
 by_cases h0:1≤k∧k≤17
 ·by_cases h1:pJ k
  ·exact Cr k n m s w h1
  by_cases h2:mF k
  ·exact BH k n m s w h2
  by_cases h3:isText k
  ·exact Bu k n m s w hs h3
  exact BZ k n m s w hs ZdA
 ·exact B9 k n m s w h0
def Bytes (w:w_) (a:Option d_) (len:Nat):Prop:=len=0∨ ∃ b off,a=o_ ⟨b,off,n_⟩∧ ∀ i,i < len→ ∃ v:Int,w.cell? ⟨b,off+i,n_⟩=o_ (i_ .u8 v)∧0≤v∧v≤255
theorem Bytes.below {w w':w_} {a:Option d_} {len:Nat} (h:Bytes w a len) (hb:B_ w.heap.size w w'):Bytes w' a len:=by
 rcases h with h | ⟨b,off,e,hc⟩
 ·exact .inl h
 ·refine .inr ⟨b,off,e,fun i hi=> ?_⟩
  obtain ⟨v,hv,hv'⟩:=hc i hi;exact ⟨v,(J1 (w:=w) (hb.block b (Le hv))).trans hv,hv'⟩
theorem Bytes.buf {w:w_} {a:Option d_} {len:Nat} (h:Bytes w a len):Buf w w.heap.size a len:=by
 rcases h with h | ⟨b,off,e,hc⟩
 ·exact .inl h
 ·rcases Nat.eq_zero_or_pos len with h0 | h0
  ·exact .inl h0
  ·refine .inr ⟨b,off,e,?_,hc⟩
   obtain ⟨v,hv,_⟩:=hc 0 h0
   have:=Le hv
   simp at this; omega
theorem Gj (a:Option d_) (len cap:Nat) (w:w_) (hb:Bytes w a len):
  k_ J3 18 #[s_ a len cap] w fun e w'=>e=r_ (p_ (o_ ⟨w.heap.size,0,n_⟩))∧B_ w.heap.size w w'∧Rd w.heap.size a len cap w'∧gG w.heap.size w w':=by
 go_enter func18,ntmps18
 go_wp2;go_ret;exact ⟨rfl,(Kp _ _).alloc (Ki _) _,⟨⟨0,by omega,Kj w _⟩,hb.buf.but ((gG.refl _ _).alloc _)⟩,(gG.refl _ _).alloc _⟩
end
section
open Go.RowKit
attribute [local go_sem ↓] Kc Kd
theorem ak6 : (Tryz.prog.info? 107).map (fun i => (i.zero, i.size, i.bytes)) = o_ (o_ (a_ #[i_ j_ 0,i_ j_ 0,i_ j_ 0]), 3, 24) := by kernel_rfl
def akE (xs : List v_) : Prop := ∀ u ∈ xs, ∃ z : Int, u =i_ j_ z ∧ -1000 ≤ z ∧ z ≤ 1000
theorem aj9 {w : w_} {base e size n b : Nat} {v : v_} {xs : List v_} (h : w.ownsRow base e size v n xs) (hb : b < base) : o_ b ≠ v.ownBlock := by
  rcases h.2 with ⟨hv, _⟩ | ⟨g, cap, cur, hv, hg, _⟩
  · subst hv; simp [Value.ownBlock]
  · subst hv; simp [Value.ownBlock]; omega
structure Made (r : Nat) (a : Option d_) (len cap : Nat) (w wr : w_) (mj : Int) (v : v_) (k : Nat) (xs : List v_) : Prop where
  I : wr.heap[w.heap.size]? = o_ (c_ #[i_ j_ 0,s_ n_ 0 0] 26)
  fr : wr.heap[w.heap.size + 1]? = o_ (c_ #[i_ j_ mj, v] 26)
  own : wr.ownsRow (w.heap.size + 2) 107 3 v k xs
  small : akE xs
  but : gG r w wr
  rd : Rd r a len cap wr
  size : w.heap.size + 2 ≤ wr.heap.size
theorem Made.move {r : Nat} {a : Option d_} {len cap : Nat} {w wr w' : w_} {mj : Int} {v : v_} {k : Nat} {xs : List v_} (m : Made r a len cap w wr mj v k xs) (hr : r < w.heap.size) (hb : gG r wr w') (rd : Rd r a len cap w') : Made r a len cap w w' mj v k xs := by
  have s1 := m.size;have s2 := hb.size;exact ⟨(hb.block _ (by omega) (by omega)).trans m.I, (hb.block _ (by omega) (by omega)).trans m.fr, AJ m.own hb (by omega), m.small, m.but.trans hb, rd, by omega⟩
theorem Made.cell {r : Nat} {a : Option d_} {len cap : Nat} {w wr : w_} {mj : Int} {v : v_} {k : Nat} {xs : List v_} (m : Made r a len cap w wr mj v k xs) : wr.cell? ⟨w.heap.size + 1, 1, n_⟩ = o_ v := by
  have := m.fr;simp [World.cell?, this]
theorem Made.akK {r : Nat} {a : Option d_} {len cap : Nat} {w wr w5 : w_} {mj : Int} {v : v_} {k : Nat} {xs : List v_} {o : Obj} (m : Made r a len cap w wr mj v k xs) (hg : (wr.alloc o).grownBy w5 v.ownBlock) : w5.heap[w.heap.size + 1]? = o_ (c_ #[i_ j_ mj, v] 26) := by
  have s1 := m.size;exact ((hg.block _ ZcJ (aj9 m.own (by omega))).trans (PU (by omega))).trans m.fr
theorem Made.push {r : Nat} {a : Option d_} {len cap : Nat} {w wr w5 : w_} {mj : Int} {v v' : v_} {k : Nat} {xs : List v_} {o : Obj} {x y z : Int} (m : Made r a len cap w wr mj v k xs) (h : Rd r a len cap w) (hg : (wr.alloc o).grownBy w5 v.ownBlock)
    (ho : w5.ownsRow (w.heap.size + 2) 107 3 v' (k + 1) (xs ++ [i_ j_ x,i_ j_ y,i_ j_ z])) (hx : -1000 ≤ x ∧ x ≤ 1000) (hy : -1000 ≤ y ∧ y ≤ 1000) (hz : -1000 ≤ z ∧ z ≤ 1000) :
    Made r a len cap w (w5.setCell ⟨w.heap.size + 1, 1, n_⟩ v') mj v' (k + 1) (xs ++ [i_ j_ x,i_ j_ y,i_ j_ z]) := by
  have s1 := m.size;have s2 := hg.size;rw [RR] at s2;have hr := h.lt;have b1 : gG r w w5 := (m.but.alloc o).grown hg (fun q hq => by
    rcases Nat.lt_or_ge q (w.heap.size + 2) with hlt | hge
    · exact absurd hq.symm (aj9 m.own hlt)
    · omega)
  have b2 : gG r w (w5.setCell ⟨w.heap.size + 1, 1, n_⟩ v') := b1.sF _ _ _ (by omega);have k1 : w5.heap[r]? = wr.heap[r]? := (hg.block _ ZcJ (aj9 m.own (by omega))).trans (PU (by omega));have k0 : w5.heap[w.heap.size]? = wr.heap[w.heap.size]? := (hg.block _ ZcJ (aj9 m.own (by omega))).trans (PU (by omega));refine ⟨?_, ?_, ?_, ?_, b2, ⟨?_, h.2.but b2⟩, by simp; omega⟩
  · exact ((K6 _ _ _ _ (by simp)).trans k0).trans m.I
  · exact K7 _ _ _ _ _ _ (m.akK hg)
  · exact AJ (r := w.heap.size + 1) ho ((gG.refl _ _).setCell _ _) (by omega)
  · intro u hu
    rcases List.mem_append.1 hu with hu | hu
    · exact m.small u hu
    · simp at hu
      rcases hu with rfl | rfl | rfl
      · exact ⟨_, rfl, hx⟩
      · exact ⟨_, rfl, hy⟩
      · exact ⟨_, rfl, hz⟩
  · obtain ⟨p, hp, e⟩ := m.rd.1
    exact ⟨p, hp, ((K6 _ _ _ _ ZcJ).trans k1).trans e⟩
theorem Made.major {r : Nat} {a : Option d_} {len cap : Nat} {w wr : w_} {mj : Int} {v : v_} {k : Nat} {xs : List v_} (m : Made r a len cap w wr mj v k xs) (h : Rd r a len cap w) (y : Int) : Made r a len cap w (wr.setCell ⟨w.heap.size + 1, 0, n_⟩ (i_ j_ y)) y v k xs := by
  have hr := h.lt;have s1 := m.size;have b2 : gG r w (wr.setCell ⟨w.heap.size + 1, 0, n_⟩ (i_ j_ y)) := m.but.sF _ _ _ (by omega);refine ⟨(K6 _ _ _ _ (by simp)).trans m.I, K7 _ _ _ _ _ _ m.fr, AJ (r := w.heap.size + 1) m.own ((gG.refl _ _).setCell _ _) (by omega), m.small, b2, ⟨?_, h.2.but b2⟩, by simp; omega⟩;obtain ⟨p, hp, e⟩ := m.rd.1;exact ⟨p, hp, (K6 _ _ _ _ ZcJ).trans e⟩
def ajq (xs : List v_) (j : Nat) : Int := match xs[j]? with
  | o_ (i_ j_ z) => z
  | _ => 0
theorem akM {xs : List v_} (h : akE xs) (j : Nat) : -1000 ≤ ajq xs j ∧ ajq xs j ≤ 1000 := by
  unfold ajq;cases e : xs[j]? with
  | none => simp
  | some u =>
    obtain ⟨z, rfl, hz⟩ := h u (KA e);exact hz
theorem ak8 {xs : List v_} (h : akE xs) {j : Nat} (hj : j < xs.length) : xs[j]? = o_ (i_ j_ (ajq xs j)) := by
  unfold ajq;cases e : xs[j]? with
  | none => rw [List.getElem?_eq_none_iff] at e; omega
  | some u =>
    obtain ⟨z, rfl, hz⟩ := h u (KA e);rfl
theorem Made.fn {r : Nat} {a : Option d_} {len cap : Nat} {w wr : w_} {mj : Int} {v : v_} {k : Nat} {xs : List v_} (m : Made r a len cap w wr mj v k xs) {g c : Nat} (hv : v =s_ (o_ ⟨g, 0, n_⟩) k c) : lT wr g k (ajq xs) ∧ (0 < k → w.heap.size + 2 ≤ g) := by
  obtain ⟨hl, ho⟩ := m.own;rcases ho with ⟨h1, h2⟩ | ⟨g', cap', cur, h1, h2, h3, h4, h5, h6, h7⟩
  · rw [h1] at hv; cases hv
  · rw [h1] at hv
    cases hv;refine ⟨⟨(J2.1 h3).1, fun j hj => ?_⟩, fun _ => h2⟩;rw [K5 _ _ _ _ _ _ h3, ← ak8 m.small (by omega), ← h7, List.getElem?_take_of_lt (by omega)];simp
theorem Made.ends {r : Nat} {a : Option d_} {len cap : Nat} {w wr : w_} {mj : Int} {k g c : Nat} {xs : List v_} (m : Made r a len cap w wr mj (s_ (o_ ⟨g, 0, n_⟩) k c) k xs) (h : Rd r a len cap w) (hk : 0 < k) (x y : v_) :
    w.heap.size ≤ g ∧ lT ((wr.setCell ⟨w.heap.size, 0, n_⟩ x).setCell ⟨w.heap.size, 1, n_⟩ y) g k (ajq xs) ∧ (∀ j, -1000 ≤ ajq xs j ∧ ajq xs j ≤ 1000) ∧ gG r w ((wr.setCell ⟨w.heap.size, 0, n_⟩ x).setCell ⟨w.heap.size, 1, n_⟩ y) ∧ Rd r a len cap ((wr.setCell ⟨w.heap.size, 0, n_⟩ x).setCell ⟨w.heap.size, 1, n_⟩ y) ∧
      ((wr.setCell ⟨w.heap.size, 0, n_⟩ x).setCell ⟨w.heap.size, 1, n_⟩ y).heap[w.heap.size]? = o_ (c_ #[x, y] 26) := by
  have hr := h.lt;obtain ⟨h1, h2⟩ := m.fn rfl;have h2 := h2 hk;have b2 : gG r w ((wr.setCell ⟨w.heap.size, 0, n_⟩ x).setCell ⟨w.heap.size, 1, n_⟩ y) := (m.but.sF _ _ _ (by omega)).sF _ _ _ (by omega);refine ⟨by omega, h1.of_block ((K6 _ _ _ _ ZcJ).trans (K6 _ _ _ _ ZcJ)), akM m.small, b2, ⟨?_, h.2.but b2⟩, K7 _ _ _ _ _ _ (K7 _ _ _ _ _ _ m.I)⟩;obtain ⟨p, hp, e⟩ := m.rd.1;exact ⟨p, hp, ((K6 _ _ _ _ ZcJ).trans (K6 _ _ _ _ ZcJ)).trans e⟩
theorem akj : (Tryz.prog.info? 26).map (·.size) = o_ 2 := by kernel_rfl
def aln (r : Nat) (a : Option d_) (len cap : Nat) (w : w_) (x i : v_) (wr : w_) : Prop :=
  ∃ (k m : Nat) (at' : Int) (v : v_) (xs : List v_), x =i_ j_ at' ∧ i =i_ j_ m ∧ 1 ≤ k + m ∧ k + m ≤ 4 ∧ 0 ≤ at' ∧ at' ≤ 6 * k ∧ Made r a len cap w wr 0 v k xs
theorem akY (r : Nat) (a : Option d_) (len cap : Nat) (w : w_) (hl : len ≤ 1048576) (h : Rd r a len cap w) :
    k_ J3 19 #[p_ (o_ ⟨r, 0, n_⟩)] w fun e w' => ∃ (major : Int) (g n c : Nat) (Z : Nat → Int), e =r_ (a_ #[i_ j_ major,s_ (o_ ⟨g, 0, n_⟩) n c]) ∧ n ≤ 4 ∧ w.heap.size ≤ g ∧ lT w' g n Z ∧ (∀ j, -1000 ≤ Z j ∧ Z j ≤ 1000) ∧ gG r w w' ∧ Rd r a len cap w' := by
  have rl := h.lt;obtain ⟨i0, hi, e⟩ := Option.map_eq_some_iff.1 ak6;simp only [Prod.mk.injEq] at e;obtain ⟨hz0, hz1, hz2⟩ := e;have HI : Hid (Tryz.prog.info? 107 = o_ i0 ∧ i0.zero = o_ (a_ #[i_ j_ 0,i_ j_ 0,i_ j_ 0]) ∧ i0.size = 3 ∧ i0.bytes = 24) := ⟨hi, hz0, hz1, hz2⟩
  clear hi hz0 hz1 hz2
  go_enter func19, ntmps19
  go_wp2_with fail;have h2 : Rd r a len cap ((w.alloc (c_ #[i_ j_ 0,s_ n_ 0 0] 26)).alloc (c_ #[i_ j_ 0,s_ n_ 0 0] 26)) := (h.below ((Kp _ _).alloc (Ki _) _)).below ((Kp _ _).alloc (Ki _) _);have b2 : gG r w ((w.alloc (c_ #[i_ j_ 0,s_ n_ 0 0] 26)).alloc (c_ #[i_ j_ 0,s_ n_ 0 0] 26)) := ((gG.refl _ _).alloc _).alloc _;have x0 : ((w.alloc (c_ #[i_ j_ 0,s_ n_ 0 0] 26)).alloc (c_ #[i_ j_ 0,s_ n_ 0 0] 26)).heap[w.heap.size]? = o_ (c_ #[i_ j_ 0,s_ n_ 0 0] 26) := (((Kp _ _).alloc (Ki _) _).block _ (by simp)).trans (Kj w _);have x1 : ((w.alloc (c_ #[i_ j_ 0,s_ n_ 0 0] 26)).alloc (c_ #[i_ j_ 0,s_ n_ 0 0] 26)).heap[w.heap.size + 1]? = o_ (c_ #[i_ j_ 0,s_ n_ 0 0] 26) := by have := Kj (w.alloc (c_ #[i_ j_ 0,s_ n_ 0 0] 26)) (c_ #[i_ j_ 0,s_ n_ 0 0] 26); simpa using this
  have x2 : ((w.alloc (c_ #[i_ j_ 0,s_ n_ 0 0] 26)).alloc (c_ #[i_ j_ 0,s_ n_ 0 0] 26)).heap.size = w.heap.size + 2 := by simp
  have HX : Hid (Rd r a len cap ((w.alloc (c_ #[i_ j_ 0,s_ n_ 0 0] 26)).alloc (c_ #[i_ j_ 0,s_ n_ 0 0] 26)) ∧ gG r w ((w.alloc (c_ #[i_ j_ 0,s_ n_ 0 0] 26)).alloc (c_ #[i_ j_ 0,s_ n_ 0 0] 26)) ∧ ((w.alloc (c_ #[i_ j_ 0,s_ n_ 0 0] 26)).alloc (c_ #[i_ j_ 0,s_ n_ 0 0] 26)).heap[w.heap.size]? = o_ (c_ #[i_ j_ 0,s_ n_ 0 0] 26) ∧ ((w.alloc (c_ #[i_ j_ 0,s_ n_ 0 0] 26)).alloc (c_ #[i_ j_ 0,s_ n_ 0 0] 26)).heap[w.heap.size + 1]? = o_ (c_ #[i_ j_ 0,s_ n_ 0 0] 26) ∧ ((w.alloc (c_ #[i_ j_ 0,s_ n_ 0 0] 26)).alloc (c_ #[i_ j_ 0,s_ n_ 0 0] 26)).heap.size = w.heap.size + 2) := ⟨h2, b2, x0, x1, x2⟩
  clear h2 b2 x0 x1 x2;generalize (w.alloc (c_ #[i_ j_ 0,s_ n_ 0 0] 26)).alloc (c_ #[i_ j_ 0,s_ n_ 0 0] 26) = W0 at *;refine (dh r a len cap 4 W0 hl (by omega) (by omega) HX.I.1).mono ?_;rintro e w1 ⟨c, c0, c1, rfl, hb1, hr1⟩;have HY : Hid (Rd r a len cap w1 ∧ gG r w w1 ∧ w1.heap[w.heap.size]? = o_ (c_ #[i_ j_ 0,s_ n_ 0 0] 26) ∧ w1.heap[w.heap.size + 1]? = o_ (c_ #[i_ j_ 0,s_ n_ 0 0] 26) ∧ w.heap.size + 2 ≤ w1.heap.size) := by
    obtain ⟨h2, b2, x0, x1, x2⟩ := HX.I;have := hb1.size;exact ⟨hr1, b2.trans hb1, (hb1.block _ (by omega) (by omega)).trans x0, (hb1.block _ (by omega) (by omega)).trans x1, by omega⟩
  clear HX hb1 hr1;go_wp2_with fail
  go_loopw [4, 5] (fun x i wr => aln r a len cap w x i wr) (fun _ i _ => (intOf i).toNat)
  case atStart =>
    obtain ⟨y1, y2, y3, y4, y5⟩ := HY.I;exact ⟨0, (c + 1).toNat, 0, _, [], rfl, by go_num, by omega, by omega, by omega, by omega, ⟨y3, y4, ⟨by simp, .inl ⟨rfl, rfl⟩⟩, by simp [akE], y2, y1, y5⟩⟩
  case round =>
    obtain ⟨k, m, at', v, xs, rfl, rfl, km, km', at0, at1, hM⟩ := hrel;have HM : Hid (Made r a len cap w wr 0 v k xs) := hM;clear hM;by_cases hm : 0 < m
    · have hm' : (0 : Int) < (m : Int) := by omega
      go_wp2_with fail;refine (dh r a len cap 3 wr hl (by omega) (by omega) HM.I.rd).mono ?_;rintro e w2 ⟨d, d0, d1, rfl, hb2, hr2⟩;go_wp2_with fail;refine (dh r a len cap 4 w2 hl (by omega) (by omega) hr2).mono ?_;rintro e w3 ⟨l, l0, l1, rfl, hb3, hr3⟩;go_wp2_with fail;have HM3 : Hid (Made r a len cap w w3 0 v k xs) := (HM.I.move rl hb2 hr2).move rl hb3 hr3;clear HM hb2 hr2 hb3;have c3 : w3.cell? ⟨w.heap.size + 1, 1, n_⟩ = o_ v := HM3.I.cell;have n3 := World.new_ne w3 _ c3
      go_region_law
        ((first
          | (go_simp
             go_at_call 37
             refine (dh r a len cap 3 _ hl (by omega) (by omega) ?_).mono ?_;exact hr3;rintro e w4 ⟨p, p0, p1, rfl, hb4, hr4⟩;have HM4 : Hid (Made r a len cap w w4 0 v k xs) := HM3.I.move rl hb4.alc hr4;have c4 : w4.cell? ⟨w.heap.size + 1, 1, n_⟩ = o_ v := HM4.I.cell;have n4 := World.new_ne w4 _ c4;have s4 := HM4.I.size;have lt4 : w.heap.size + 1 < w4.heap.size := by omega
             have hpw : IntKind.i64.wrap (1 + p) = 1 + p := by rw [K8]; omega
             clear hb4 hr4)
          | (refine step_append_lies _ (by rfl) _ _ _ (by rfl) (w.heap.size + 2) 107 i0 _ 3 24 underlying24 HI.I.1 HI.I.2.1 HI.I.2.2.1 HI.I.2.2.2 rfl (by omega) v k xs (by rfl) (by first | exact HM4.I.own.alloc _ | exact (HM4.I.own.alloc _).drew | exact (HM4.I.own.drew.alloc _).drew | exact HM4.I.own.drew.alloc _)
              ⟨w4.heap.size, 0, n_⟩ 1 1 [i_ j_ (at' + d),i_ j_ (1 + l),i_ j_ (1 + p)] (by rfl) (by rfl) (World.news_of_block (cs := #[i_ j_ (at' + d),i_ j_ (1 + l),i_ j_ (1 + p)]) (t := 107) (fr := (0, 0)) (Kj w4 _)) ZcT
              (by omega) (by simp only [maxLen]; omega) (by omega) ZcJ (w4.heap.size + 1) (by simp) ?_
             intro gg cp w5 oM hgrow hat hlt;have f5 := HM4.I.akK hgrow;have HP : Hid _ := HM4.I.push h hgrow oM (by omega) (by omega) (by omega);have c5 : w5.cell? ⟨w.heap.size + 1, 1, n_⟩ = o_ v := by simp [World.cell?, f5]
             have z5 : w5.frozen? ⟨w.heap.size + 1, 1, n_⟩ = false := Ko w5 _ _ _ _ f5;clear oM hgrow hat f5)))
      all_goals
        have hnw : IntKind.i64.wrap (at' + d + (1 + l)) = at' + d + (1 + l) := by rw [K8]; omega
        go_wp2;go_roundw
        case rel => exact ⟨k + 1, m - 1, _, _, _, rfl, by go_num, by omega, by omega, by omega, by omega, HP.I⟩
        case measure => simp [intOf]; omega
    · have hk : 0 < k := by omega
      obtain ⟨g, cp, rfl, hg0, CT⟩ := HM.I.own.form hk;go_wp2_with fail;refine (dh r a len cap 3 wr hl (by omega) (by omega) HM.I.rd).mono ?_;rintro e w2 ⟨d, d0, d1, rfl, hb2, hr2⟩;have HM2 : Hid (Made r a len cap w w2 0 (s_ (o_ ⟨g, 0, n_⟩) k cp) k xs) := HM.I.move rl hb2 hr2;have HM2' : Hid (Made r a len cap w (w2.setCell ⟨w.heap.size + 1, 0, n_⟩ (i_ j_ (at' + d))) (at' + d) (s_ (o_ ⟨g, 0, n_⟩) k cp) k xs) := HM2.I.major h _;clear HM hb2 hr2;have f2 := HM2.I.fr;have c2 : w2.cell? ⟨w.heap.size + 1, 0, n_⟩ = o_ (i_ j_ 0) := by simp [World.cell?, f2]
      have z2 : w2.frozen? ⟨w.heap.size + 1, 0, n_⟩ = false := Ko w2 _ _ _ _ f2;clear f2 HM2;have hnw : IntKind.i64.wrap (at' + d) = at' + d := by rw [K8]; omega
      go_wp2_with fail;generalize w2.setCell ⟨w.heap.size + 1, 0, n_⟩ (i_ j_ (at' + d)) = W2 at *;refine (jt r a len cap 30 W2 hl (by omega) (by omega) HM2'.I.rd).mono ?_;rintro e w3 ⟨q, rfl, hb3, hr3⟩;have HM3 : Hid (Made r a len cap w w3 (at' + d) (s_ (o_ ⟨g, 0, n_⟩) k cp) k xs) := HM2'.I.move rl hb3 hr3;clear HM2' hb3 hr3;cases q with
      | true =>
        go_wp2_with fail;refine (pj r a len cap 1 1000 w3 hl (by omega) (by omega) (by omega) HM3.I.rd).mono ?_;rintro e w4 ⟨y, rfl, hb4, hr4⟩;have HM4 : Hid (Made r a len cap w w4 (at' + d) (s_ (o_ ⟨g, 0, n_⟩) k cp) k xs) := HM3.I.move rl hb4 hr4;have HM5 : Hid (Made r a len cap w (w4.setCell ⟨w.heap.size + 1, 0, n_⟩ (i_ j_ y)) y (s_ (o_ ⟨g, 0, n_⟩) k cp) k xs) := HM4.I.major h _;clear HM3 hb4 hr4;have f4 := HM4.I.fr;have c4 : w4.cell? ⟨w.heap.size + 1, 0, n_⟩ = o_ (i_ j_ (at' + d)) := by simp [World.cell?, f4]
        have z4 : w4.frozen? ⟨w.heap.size + 1, 0, n_⟩ = false := Ko w4 _ _ _ _ f4;clear f4 HM4;have f5 := HM5.I.fr;have g5 := HM5.I.I;have s5 := HM5.I.size;have c50 : (w4.setCell ⟨w.heap.size + 1, 0, n_⟩ (i_ j_ y)).cell? ⟨w.heap.size + 1, 0, n_⟩ = o_ (i_ j_ y) := by simp [World.cell?, f5]
        have c51 : (w4.setCell ⟨w.heap.size + 1, 0, n_⟩ (i_ j_ y)).cell? ⟨w.heap.size + 1, 1, n_⟩ = o_ (s_ (o_ ⟨g, 0, n_⟩) k cp) := by simp [World.cell?, f5]
        have d50 : (w4.setCell ⟨w.heap.size + 1, 0, n_⟩ (i_ j_ y)).cell? ⟨w.heap.size, 0, n_⟩ = o_ (i_ j_ 0) := by simp [World.cell?, g5]
        have d51 : (w4.setCell ⟨w.heap.size + 1, 0, n_⟩ (i_ j_ y)).cell? ⟨w.heap.size, 1, n_⟩ = o_ (s_ n_ 0 0) := by simp [World.cell?, g5]
        have z50 : (w4.setCell ⟨w.heap.size + 1, 0, n_⟩ (i_ j_ y)).frozen? ⟨w.heap.size, 0, n_⟩ = false := Ko _ _ _ _ _ g5;have z51 : (w4.setCell ⟨w.heap.size + 1, 0, n_⟩ (i_ j_ y)).frozen? ⟨w.heap.size, 1, n_⟩ = false := Ko _ _ _ _ _ g5;clear f5 g5;generalize hW : w4.setCell ⟨w.heap.size + 1, 0, n_⟩ (i_ j_ y) = W5 at *;go_wp2;refine KT (K9 results19 _ _ w.heap.size 26 #[i_ j_ (y),s_ (o_ ⟨g, 0, n_⟩) k cp] (0, 0) _ (by rfl) (HM5.I.ends h hk _ _).2.2.2.2.2 underlying26 rfl akj) rfl ?_;obtain ⟨e1, e2, e3, e4, e5, _⟩ := HM5.I.ends h hk (i_ j_ (y)) (s_ (o_ ⟨g, 0, n_⟩) k cp);exact ⟨_, g, k, cp, _, rfl, by omega, e1, e2, e3, e4, e5⟩
      | false =>
        have f5 := HM3.I.fr;have g5 := HM3.I.I;have c50 : w3.cell? ⟨w.heap.size + 1, 0, n_⟩ = o_ (i_ j_ (at' + d)) := by simp [World.cell?, f5]
        have c51 : w3.cell? ⟨w.heap.size + 1, 1, n_⟩ = o_ (s_ (o_ ⟨g, 0, n_⟩) k cp) := by simp [World.cell?, f5]
        have d50 : w3.cell? ⟨w.heap.size, 0, n_⟩ = o_ (i_ j_ 0) := by simp [World.cell?, g5]
        have d51 : w3.cell? ⟨w.heap.size, 1, n_⟩ = o_ (s_ n_ 0 0) := by simp [World.cell?, g5]
        have z50 : w3.frozen? ⟨w.heap.size, 0, n_⟩ = false := Ko _ _ _ _ _ g5;have z51 : w3.frozen? ⟨w.heap.size, 1, n_⟩ = false := Ko _ _ _ _ _ g5;clear f5 g5;go_wp2;refine KT (K9 results19 _ _ w.heap.size 26 #[i_ j_ (at' + d),s_ (o_ ⟨g, 0, n_⟩) k cp] (0, 0) _ (by rfl) (HM3.I.ends h hk _ _).2.2.2.2.2 underlying26 rfl akj) rfl ?_;obtain ⟨e1, e2, e3, e4, e5, _⟩ := HM3.I.ends h hk (i_ j_ (at' + d)) (s_ (o_ ⟨g, 0, n_⟩) k cp);exact ⟨_, g, k, cp, _, rfl, by omega, e1, e2, e3, e4, e5⟩
end
section
open Go.RowKit
theorem ak5 (r:Nat) (a:Option d_) (len cap:Nat) (w:w_) (hl:len≤1048576) (h:Rd r a len cap w):
  k_ J3 20 #[p_ (o_ ⟨r,0,n_⟩)] w fun e w'=> ∃ v:Int,e=r_ (i_ j_ v)∧gG r w w'∧Rd r a len cap w':=by
 go_enter func20,ntmps20
 go_wp2_with fail;refine (jt r a len cap 16 _ hl (by omega) (by omega) h).mono ?_;rintro e w1 ⟨v,rfl,hb,hr⟩;cases v with
 | true=>
  go_wp2_with fail;refine (pj r a len cap 0 1000000000 _ hl (by omega) (by omega) (by omega) hr).mono ?_;exact ZaY
 | false=>
  go_wp2_with fail;refine (dh r a len cap 60 _ hl (by omega) (by omega) hr).mono ?_;rintro e w2 ⟨x,x0,x1,rfl,hb2,hr2⟩;go_wp2;go_ret;exact ⟨_,rfl,hb.trans hb2,hr2⟩
theorem O4 {a n:Int} {s:ByteArray} (h0:0≤a) (h10:a < 10) (h:Lib.decDigits a.toNat ++ s.data.toList=Lib.decDigits n.toNat) (hn:0≤n):
  (⟨#[UInt8.ofNat (48+a).toNat]⟩:ByteArray) ++ s=Ij n:=by
 have e2:(48+a).toNat=48+a.toNat:=by omega
 apply ByteArray.ext;apply Array.ext';rw [Ij,F7 hn,← h,Lib.decDigits,dif_pos (by omega)];simp [e2,ByteArray.data_append]
theorem NT (n:Int) (hn0:0≤n) (hn:n≤9999999999) (w:w_):
  k_ J3 65 #[i_ j_ n] w fun e w'=>e=r_ (t_ (Ij n))∧B_ w.heap.size w w':=by
 have h0: ¬ n < 0:=by omega
 have hcv:=Gx;have HN:Hid (0≤n∧n≤9999999999):=⟨hn0,hn⟩
 clear hn0 hn
 go_enter func65,ntmps65
 go_wp2;clear h0
 go_loopw [0,3] (fun i t wr=> ∃ (a:Int) (s:ByteArray),i=i_ j_ a∧t=t_ s∧Hid (0≤a∧a≤n∧Lib.decDigits a.toNat ++ s.data.toList=Lib.decDigits n.toNat)∧B_ w.heap.size w wr) (fun i _ _=>(intOf i).toNat)
 case atStart=>exact ⟨n,⟨#[]⟩,rfl,rfl,⟨HN.I.1,Int.le_refl _,by simp⟩,Kp _ _⟩
 case round=>
  obtain ⟨a,s,rfl,rfl,HD,kj⟩:=hrel;have hs: ¬ 9223372036854775807 < 1+s.size:=by
   have h1:=congrArg List.length HD.I.2.2;have h2:=Fk HN.I.2;have h3:s.data.toList.length=s.size:=by simp
   rw [Lf] at h1;omega
  by_cases h10:10≤a
  ·have e1:wrap64 (48+a.tmod 10) % 256=48+a % 10:=by
    have:=HD.I
    rw [Int.tmod_eq_emod_of_nonneg (by omega)];unfold wrap64; omega
   have e2:a.tdiv 10=a / 10:=Int.tdiv_eq_ediv_of_nonneg (by have:=HD.I; omega);have e3:wrap64 (a / 10)=a / 10:=by have:=HD.I; have:=HN.I; unfold wrap64; omega
   go_wp2;go_roundw
   case rel=>
    refine ⟨a / 10,_,by rw [e3],rfl,?_,kj.alloc kj.size _⟩;have HD':=HD.I;refine ⟨by omega,by omega,?_⟩;exact GP h10 HD'.2.2
   case measure=>simp only [intOf]; have:=HD.I; omega
  ·have e1:wrap64 (48+a) % 256=48+a:=by have:=HD.I; unfold wrap64; omega
   go_wp2;go_ret;refine ⟨?_,kj.alloc kj.size _⟩;have HD':=HD.I;rw [O4 HD'.1 (by omega) HD'.2.2 HN.I.1];rfl
theorem N2 {n:Int} (h:n < 0):Lib.itoa n=45 :: Lib.decDigits (-n).toNat:=by
 unfold Lib.itoa;rw [if_pos h]
 congr 2
 omega
theorem Pg {n:Int} (h:n < 0):(⟨#[45]⟩:ByteArray) ++ Ij (-n)=Ij n:=by
 apply ByteArray.ext;apply Array.ext';rw [Ij,Ij,N2 h,F7 (by omega)];simp [ByteArray.data_append]
theorem MD {n:Int} (h0: -9999999999≤n) (h:n≤9999999999):(Ij n).size≤11:=by
 have e:(Ij n).size=(Lib.itoa n).length:=by simp [Ij,ByteArray.size]
 rw [e];by_cases hn:n < 0
 ·have:=Fk (n:= -n) (by omega)
  rw [N2 hn]; simp; omega
 ·have:=Fk h
  rw [F7 (by omega)]; omega
theorem MC (n:Int) (hn0: -9999999999≤n) (hn:n≤9999999999) (w:w_):
  k_ J3 65 #[i_ j_ n] w fun e w'=>e=r_ (t_ (Ij n))∧B_ w.heap.size w w':=by
 by_cases h:n < 0
 ·have e1:wrap64 (-n)= -n:=by unfold wrap64; omega
  have hs: ¬ 9223372036854775807 < 1+(Ij (-n)).size:=by have:=MD (n:= -n) (by omega) (by omega); omega
  have h1:0≤ -n:=by omega
  have h2: -n≤9999999999:=by omega
  have e4:=Pg h;clear hn0 hn
  go_enter func65,ntmps65
  go_wp2_with (go_at_call 65; refine (NT (-n) h1 h2 _).mono ?_; rintro e w' ⟨rfl,hb⟩);go_ret;exact ⟨by first | rfl | (rw [e4]; rfl),hb⟩
 ·exact NT n (by omega) hn w
abbrev dN:=Int × Int × Int × ByteArray
def kc (o:dN):Bool:=mQ o.1 o.2.1 o.2.2.1 o.2.2.2
theorem eW (n:Int) (w:w_):k_ J3 70 #[i_ j_ n] w fun e w'=>e=r_ (b_ (cv n 1 1000))∧w'=w:=by
 by_cases h1:1≤n
 ·by_cases h2:n≤1000
  ·go_enter func70,ntmps70
   exact Zbi
  ·go_enter func70,ntmps70
   exact Za4
 ·go_enter func70,ntmps70
  exact Za5
theorem iX (n:Int) (w:w_):k_ J3 73 #[i_ j_ n] w fun e w'=>e=r_ (b_ (cv n (-1) 1000))∧w'=w:=by
 by_cases h1: -1≤n
 ·by_cases h2:n≤1000
  ·go_enter func73,ntmps73
   exact Zbi
  ·go_enter func73,ntmps73
   exact Za4
 ·go_enter func73,ntmps73
  exact Za5
/-! ### Which form an interface value bears. -/
theorem ze (v:v_) (w:w_):(Instr.typeAssert (.iface 159 v) 98 159 true).run J3 w= .ok (u_ #[v,b_ true]) w:=by kernel_rfl
theorem uC (v:v_) (w:w_):(Instr.typeAssert (.iface 151 v) 98 159 true).run J3 w= .ok (u_ #[a_ #[i_ j_ 0],b_ false]) w:=by kernel_rfl
theorem sG (v:v_) (w:w_):(Instr.typeAssert (.iface 151 v) 98 151 true).run J3 w= .ok (u_ #[v,b_ true]) w:=by kernel_rfl
theorem zv (v:v_) (w:w_):(Instr.typeAssert (.iface 153 v) 98 159 true).run J3 w= .ok (u_ #[a_ #[i_ j_ 0],b_ false]) w:=by kernel_rfl
theorem uY (v:v_) (w:w_):(Instr.typeAssert (.iface 153 v) 98 151 true).run J3 w= .ok (u_ #[a_ #[i_ j_ 0,i_ j_ 0],b_ false]) w:=by kernel_rfl
theorem y8 (v:v_) (w:w_):(Instr.typeAssert (.iface 153 v) 98 153 true).run J3 w= .ok (u_ #[v,b_ true]) w:=by kernel_rfl
theorem zt (v:v_) (w:w_):(Instr.typeAssert (.iface 155 v) 98 159 true).run J3 w= .ok (u_ #[a_ #[i_ j_ 0],b_ false]) w:=by kernel_rfl
theorem vh (v:v_) (w:w_):(Instr.typeAssert (.iface 155 v) 98 151 true).run J3 w= .ok (u_ #[a_ #[i_ j_ 0,i_ j_ 0],b_ false]) w:=by kernel_rfl
theorem yQ (v:v_) (w:w_):(Instr.typeAssert (.iface 155 v) 98 153 true).run J3 w= .ok (u_ #[a_ #[i_ j_ 0,i_ j_ 0,i_ j_ 0],b_ false]) w:=by kernel_rfl
theorem yj (v:v_) (w:w_):(Instr.typeAssert (.iface 155 v) 98 155 true).run J3 w= .ok (u_ #[v,b_ true]) w:=by kernel_rfl
theorem zq (v:v_) (w:w_):(Instr.typeAssert (.iface 157 v) 98 159 true).run J3 w= .ok (u_ #[a_ #[i_ j_ 0],b_ false]) w:=by kernel_rfl
theorem vy (v:v_) (w:w_):(Instr.typeAssert (.iface 157 v) 98 151 true).run J3 w= .ok (u_ #[a_ #[i_ j_ 0,i_ j_ 0],b_ false]) w:=by kernel_rfl
theorem yt (v:v_) (w:w_):(Instr.typeAssert (.iface 157 v) 98 153 true).run J3 w= .ok (u_ #[a_ #[i_ j_ 0,i_ j_ 0,i_ j_ 0],b_ false]) w:=by kernel_rfl
theorem yM (v:v_) (w:w_):(Instr.typeAssert (.iface 157 v) 98 155 true).run J3 w= .ok (u_ #[a_ #[i_ j_ 0,i_ j_ 0,i_ j_ 0,t_ ByteArray.empty],b_ false]) w:=by kernel_rfl
theorem yU (v:v_) (w:w_):(Instr.typeAssert (.iface 157 v) 98 157 true).run J3 w= .ok (u_ #[v,b_ true]) w:=by kernel_rfl
theorem my (k:Int) (w:w_):
  k_ J3 36 #[.iface 159 (a_ #[i_ j_ k])] w fun e w'=>e=r_ (b_ (true))∧B_ w.heap.size w w':=by
 have yW:=ze (a_ #[i_ j_ k])
 exact AM
theorem mC (k n:Int) (w:w_):
  k_ J3 36 #[.iface 151 (a_ #[i_ j_ k,i_ j_ n])] w fun e w'=>e=r_ (b_ (cv n 1 1000))∧B_ w.heap.size w w':=by
 have yW:=uC (a_ #[i_ j_ k,i_ j_ n]);have ur:=sG (a_ #[i_ j_ k,i_ j_ n])
 exact AM
theorem sH (k n m:Int) (w:w_):
  k_ J3 36 #[.iface 153 (a_ #[i_ j_ k,i_ j_ n,i_ j_ m])] w fun e w'=>e=r_ (b_ (cv n 1 1000 && cv m (-1) 1000))∧B_ w.heap.size w w':=by
 have yW:=zv (a_ #[i_ j_ k,i_ j_ n,i_ j_ m]);have ur:=uY (a_ #[i_ j_ k,i_ j_ n,i_ j_ m]);have GI:=y8 (a_ #[i_ j_ k,i_ j_ n,i_ j_ m])
 exact AM
theorem Bc (k n m:Int) (s:ByteArray) (w:w_) (hs:s.size≤1048576):
  k_ J3 36 #[.iface 155 (a_ #[i_ j_ k,i_ j_ n,i_ j_ m,t_ s])] w fun e w'=>e=r_ (b_ (cv n 1 1000 && cv m (-1) 1000 && bw s))∧B_ w.heap.size w w':=by
 have yW:=zt (a_ #[i_ j_ k,i_ j_ n,i_ j_ m,t_ s]);have ur:=vh (a_ #[i_ j_ k,i_ j_ n,i_ j_ m,t_ s]);have GI:=yQ (a_ #[i_ j_ k,i_ j_ n,i_ j_ m,t_ s]);have h_send:=yj (a_ #[i_ j_ k,i_ j_ n,i_ j_ m,t_ s])
 exact Q4
theorem sL (k n:Int) (s:ByteArray) (w:w_) (hs:s.size≤1048576):
  k_ J3 36 #[.iface 157 (a_ #[i_ j_ k,i_ j_ n,t_ s])] w fun e w'=>e=r_ (b_ (cv n 1 1000 && bw s))∧B_ w.heap.size w w':=by
 have yW:=zq (a_ #[i_ j_ k,i_ j_ n,t_ s]);have ur:=vy (a_ #[i_ j_ k,i_ j_ n,t_ s]);have GI:=yt (a_ #[i_ j_ k,i_ j_ n,t_ s]);have h_send:=yM (a_ #[i_ j_ k,i_ j_ n,t_ s]);have h_text:=yU (a_ #[i_ j_ k,i_ j_ n,t_ s])
 exact Q4
end
section
open Go.RowKit
attribute [local go_sem ↓] Kc Kd
structure Drw (a:Option d_) (len cap:Nat) (w wr:w_) (B g n c:Nat) (mj:Int) (Z:Nat→Int):Prop where
 rd:Rd (w.heap.size+1) a len cap wr
 res:wr.heap[w.heap.size]? =o_ (c_ #[i_ j_ 0,s_ n_ 0 0] 26)
 fr:wr.heap[B]? =o_ (c_ #[i_ j_ mj,s_ (o_ ⟨g,0,n_⟩) n c] 26)
 fn:lT wr g n Z
 cd:B_ w.heap.size w wr
 b0:w.heap.size+1 < B
 g0:w.heap.size+1 < g
 b1:B < wr.heap.size
 g1:g < wr.heap.size
theorem Drw.move {a:Option d_} {len cap:Nat} {w wr w':w_} {B g n c:Nat} {mj:Int} {Z:Nat→Int} (d:Drw a len cap w wr B g n c mj Z) (hb:gG (w.heap.size+1) wr w') (rd:Rd (w.heap.size+1) a len cap w'):Drw a len cap w w' B g n c mj Z:=by
 have h1:=d.b0;have h2:=d.g0;have h3:=d.b1;have h4:=d.g1;have h5:=hb.size;exact ⟨rd,(hb.block _ (by omega) (by omega)).trans d.res,(hb.block _ h3 (by omega)).trans d.fr,d.fn.of_block (hb.block _ h4 (by omega)),d.cd.trans (hb.below (by omega) (by omega)),h1,h2,by omega,by omega⟩
theorem Drw.ends {a:Option d_} {len cap:Nat} {w wr:w_} {B g n c:Nat} {mj:Int} {Z:Nat→Int} (d:Drw a len cap w wr B g n c mj Z) (x y:v_):
  lT ((wr.setCell ⟨w.heap.size,0,n_⟩ x).setCell ⟨w.heap.size,1,n_⟩ y) g n Z∧B_ w.heap.size w ((wr.setCell ⟨w.heap.size,0,n_⟩ x).setCell ⟨w.heap.size,1,n_⟩ y)∧((wr.setCell ⟨w.heap.size,0,n_⟩ x).setCell ⟨w.heap.size,1,n_⟩ y).heap[w.heap.size]? =o_ (c_ #[x,y] 26):=by
 have h2:=d.g0;refine ⟨d.fn.of_block ((K6 _ _ _ _ ZcJ).trans (K6 _ _ _ _ ZcJ)),?_,K7 _ _ _ _ _ _ (K7 _ _ _ _ _ _ d.res)⟩;exact (d.cd.setCell (by simp) _).setCell (by simp) _
end
section
open Go.RowKit
def ME (k:Int):ByteArray:=
 if k=1 then ⟨#[114,117,110]⟩ else if k=2 then ⟨#[115,108,101,101,112]⟩ else if k=3 then ⟨#[119,97,105,116]⟩
 else if k=4 then ⟨#[115,105,103,110,97,108]⟩ else if k=5 then ⟨#[115,101,116]⟩ else if k=6 then ⟨#[114,101,115,101,116]⟩
 else if k=7 then ⟨#[97,119,97,105,116]⟩ else if k=8 then ⟨#[115,101,110,100]⟩ else if k=9 then ⟨#[116,97,107,101]⟩
 else if k=10 then ⟨#[115,104,111,119]⟩ else if k=11 then ⟨#[99,108,101,97,114]⟩ else if k=12 then ⟨#[114,101,97,100]⟩
 else if k=13 then ⟨#[119,114,105,116,101]⟩ else if k=14 then ⟨#[102,101,116,99,104]⟩ else if k=15 then ⟨#[115,116,97,114,116]⟩
 else if k=16 then ⟨#[115,116,111,112]⟩ else if k=17 then ⟨#[108,111,111,112]⟩ else ⟨#[]⟩
def MF (k n m:Int) (s:ByteArray):ByteArray:=
 if k=1∨k=2∨k=4∨k=5∨k=6∨k=11∨k=14∨k=15∨k=16 then ME k ++ ⟨#[32]⟩ ++ Ij n
 else if k=3∨k=7∨k=9∨k=12 then ME k ++ ⟨#[32]⟩ ++ Ij n ++ ⟨#[32]⟩ ++ Ij m
 else if k=8 then ME k ++ ⟨#[32]⟩ ++ Ij n ++ ⟨#[32]⟩ ++ Ij m ++ ⟨#[32]⟩ ++ s
 else if k=10∨k=13 then ME k ++ ⟨#[32]⟩ ++ Ij n ++ ⟨#[32]⟩ ++ s
 else ME k
def M3 (w:w_) (g:Nat):Prop:=g < w.heap.size∧ ∀ k:Nat,k≤17→w.cell? ⟨g,k,n_⟩=o_ (t_ (ME k))
theorem M3.below {w w':w_} {g:Nat} (h:M3 w g) (hb:B_ w.heap.size w w'):M3 w' g:=
 ⟨Kn h.1 hb.size,fun k hk=>(hb.cell (p:=⟨g,k,n_⟩) h.1).trans (h.2 k hk)⟩
theorem MG (w:w_):k_ J3 166 #[] w fun e w'=>e=r_ (s_ (o_ ⟨w.heap.size,0,n_⟩) 18 18)∧M3 w' w.heap.size∧B_ w.heap.size w w':=by
 go_enter func166,ntmps166
 go_wp2;go_ret;refine ⟨rfl,⟨by simp,?_⟩,by go_grown⟩;intro k hk;have h:k=0∨k=1∨k=2∨k=3∨k=4∨k=5∨k=6∨k=7∨k=8∨k=9∨k=10∨k=11∨k=12∨k=13∨k=14∨k=15∨k=16∨k=17:=by omega
 rcases h with rfl | rfl | rfl | rfl | rfl | rfl | rfl | rfl | rfl | rfl | rfl | rfl | rfl | rfl | rfl | rfl | rfl | rfl <;> simp [ME]
theorem O1 {p:Prop} [Decidable p] {a b:ByteArray} {n:Nat} (ha:a.size≤n) (hb:b.size≤n):(if p then a else b).size≤n:=by split <;> assumption
theorem MH (k:Int):(ME k).size≤6:=by
 unfold ME
 repeat (first | decide | refine O1 (by decide) ?_)
theorem M3.one {w:w_} {g:Nat} (h:M3 w g) (k:Nat) (hk:k≤17):w.cell? ⟨g,k,n_⟩=o_ (t_ (ME k)):=h.2 k hk
theorem OP {k n m:Int} {s:ByteArray} (h:mQ k n m s=true):k=1∨k=2∨k=3∨k=4∨k=5∨k=6∨k=7∨k=8∨k=9∨k=10∨k=11∨k=12∨k=13∨k=14∨k=15∨k=16∨k=17:=by
 unfold mQ at h
 split at h
 ·omega
 split at h
 ·omega
 split at h
 ·omega
 split at h
 ·omega
 split at h
 ·omega
 ·cases h
theorem MK {n lo hi:Int} (h:cv n lo hi=true):lo≤n∧n≤hi:=by simpa [cv] using h
theorem Nq {s:ByteArray} (h:bw s=true):s.size≤20:=by
 simp only [bw,J7,decide_eq_true_eq] at h;exact h.1
theorem ML {k n m:Int} {s:ByteArray} (hk:k=1∨k=2∨k=4∨k=5∨k=6∨k=11∨k=14∨k=15∨k=16) (h:mQ k n m s=true):1≤n∧n≤1000:=by
 unfold mQ at h;rw [if_pos hk] at h;simp only [J7] at h;exact MK h.1.1
theorem MZ {k n m:Int} {s:ByteArray} (hk:k=3∨k=7∨k=9∨k=12) (h:mQ k n m s=true):1≤n∧n≤1000∧ -1≤m∧m≤1000:=by
 unfold mQ at h;rw [if_neg (by omega),if_pos hk] at h;simp only [J7] at h;exact ⟨(MK h.1.1).1,(MK h.1.1).2,(MK h.1.2).1,(MK h.1.2).2⟩
theorem N0 {n m:Int} {s:ByteArray} (h:mQ 8 n m s=true):1≤n∧n≤1000∧ -1≤m∧m≤1000∧s.size≤20:=by
 unfold mQ at h;rw [if_neg (by omega),if_neg (by omega),if_pos rfl] at h;simp only [J7] at h;exact ⟨(MK h.1.1).1,(MK h.1.1).2,(MK h.1.2).1,(MK h.1.2).2,Nq h.2⟩
theorem NK {k n m:Int} {s:ByteArray} (hk:k=10∨k=13) (h:mQ k n m s=true):1≤n∧n≤1000∧s.size≤20:=by
 unfold mQ at h;rw [if_neg (by omega),if_neg (by omega),if_neg (by omega),if_pos hk] at h;simp only [J7] at h;exact ⟨(MK h.1.1).1,(MK h.1.1).2,Nq h.2⟩
def Row (w:w_) (a:Option d_) (xs:List v_):Prop:= ∀ (j:Nat) (u:v_),xs[j]? =o_ u→ ∃ g,a=o_ ⟨g,0,n_⟩∧w.cell? ⟨g,j,n_⟩=o_ u
section
variable {w w':w_} {a:Option d_} {xs:List v_}
theorem Row.nothing (w:w_) (a:Option d_):Row w a [] :=fun j u h=>by simp at h
theorem Row.same (h:Row w a xs) (hs: ∀ g,a=o_ ⟨g,0,n_⟩→w'.heap[g]? =w.heap[g]?):Row w' a xs:=fun j u hu=>by
 obtain ⟨g,e,hc⟩:=h j u hu;exact ⟨g,e,(J1 (w:=w) (a:=⟨g,j,n_⟩) (hs g e)).trans hc⟩
theorem Row.below (h:Row w a xs) (hb:B_ w.heap.size w w'):Row w' a xs:=fun j u hu=>by
 obtain ⟨g,e,hc⟩:=h j u hu;exact ⟨g,e,(hb.cell (p:=⟨g,j,n_⟩) (Le hc)).trans hc⟩
theorem Row.low {base:Nat} (h:Row w a xs) (ha: ∀ q,a=o_ q→q.block < base) (hb:B_ base w w'):Row w' a xs:=h.same fun g e=>hb.block g (ha _ e)
theorem Row.drew (h:Row w a xs):Row w.drew a xs:=h
end
def Src (w:w_) (a:Option d_) (xs:List v_):Prop:= ∀ (j:Nat) (u:v_),xs[j]? =o_ u→ ∃ b off,a=o_ ⟨b,off,n_⟩∧w.cell? ⟨b,off+j,n_⟩=o_ u
theorem Src.below {w w':w_} {a:Option d_} {xs:List v_} (h:Src w a xs) (hb:B_ w.heap.size w w'):Src w' a xs:=fun j u hu=>by
 obtain ⟨b,off,e,hc⟩:=h j u hu;exact ⟨b,off,e,(hb.cell (p:=⟨b,off+j,n_⟩) (Le hc)).trans hc⟩
structure Kind (α:Type) where
 n:Nat
 vals:α→List v_
 kids:α→List (Option d_ × List v_)
 pos:0 < n
 len: ∀ x,(vals x).length=n
section
variable {α:Type} (K:Kind α)
def Kind.flat (l:List α):List v_:=l.flatMap K.vals
theorem Kind.dM (l:List α):(K.flat l).length=l.length * K.n:=by
 induction l with
 | nil=>simp [Kind.flat]
 | cons x r ih=>
  show (K.vals x ++ K.flat r).length=_
  rw [Lf,ih,K.len,List.length_cons,Lh];omega
theorem Kind.jw {l:List α} {i:Nat} {x:α} (hx:l[i]? =o_ x) {j:Nat} (hj:j < K.n):(K.flat l)[i * K.n+j]? =(K.vals x)[j]? :=by
 induction l generalizing i with
 | nil=>simp at hx
 | cons y r ih=>
  show (K.vals y ++ K.flat r)[_]? =_
  cases i with
  | zero=>
   simp at hx;subst hx;rw [Nat.zero_mul,Nat.zero_add,List.getElem?_append_left (by rw [K.len]; exact hj)]
  | succ i=>
   have hx':r[i]? =o_ x:=by simpa using hx
   rw [List.getElem?_append_right (by rw [K.len,Lh]; omega),K.len,show (i+1) * K.n+j - K.n=i * K.n+j by rw [Lh]; omega];exact ih hx'
theorem Kind.dc (l r:List α):K.flat (l ++ r)=K.flat l ++ K.flat r:=List.flatMap_append
theorem Kind.GJ (x:α):K.flat [x] =K.vals x:=by simp [Kind.flat]
def Kind.bU (w:w_) (a:Option d_) (l:List α):Prop:=Row w a (K.flat l)∧ ∀ x∈l,∀ r∈K.kids x,Row w r.1 r.2
variable {K}
theorem Kind.bU.at {w:w_} {a:Option d_} {l:List α} (h:K.bU w a l) {i:Nat} {x:α} (hx:l[i]? =o_ x):
  ∃ g,a=o_ ⟨g,0,n_⟩∧ ∀ (j:Nat) (u:v_),(K.vals x)[j]? =o_ u→w.cell? ⟨g,i * K.n+j,n_⟩=o_ u:=by
 have h0: ∃ u,(K.vals x)[0]? =o_ u:=⟨_,Kz (by rw [K.len]; exact K.pos)⟩
 obtain ⟨u0,hu0⟩:=h0;obtain ⟨g,e,_⟩:=h.1 (i * K.n+0) u0 ((K.jw hx K.pos).trans hu0);refine ⟨g,e,fun j u hu=> ?_⟩;have hj:j < K.n:=by
  rw [← K.len x];exact (Lj.1 hu).1
 obtain ⟨g',e',hc⟩:=h.1 (i * K.n+j) u ((K.jw hx hj).trans hu);rw [e] at e';cases e';exact hc
theorem Kind.bU.bt {w:w_} {a:Option d_} {l:List α} (h:K.bU w a l) {i:Nat} {x:α} (hx:l[i]? =o_ x) {r:Option d_ × List v_} (hr:r∈K.kids x):Row w r.1 r.2:=h.2 x (KA hx) r hr
variable (K) in
def Kind.ep (w:w_) (a:Option d_) (l:List α):Prop:=Src w a (K.flat l)∧ ∀ x∈l,∀ r∈K.kids x,Src w r.1 r.2
theorem Kind.ep.at {w:w_} {a:Option d_} {l:List α} (h:K.ep w a l) {i:Nat} {x:α} (hx:l[i]? =o_ x):
  ∃ b off,a=o_ ⟨b,off,n_⟩∧ ∀ (j:Nat) (u:v_),(K.vals x)[j]? =o_ u→w.cell? ⟨b,off+i * K.n+j,n_⟩=o_ u:=by
 have h0: ∃ u,(K.vals x)[0]? =o_ u:=⟨_,Kz (by rw [K.len]; exact K.pos)⟩
 obtain ⟨u0,hu0⟩:=h0;obtain ⟨b,off,e,_⟩:=h.1 (i * K.n+0) u0 ((K.jw hx K.pos).trans hu0);refine ⟨b,off,e,fun j u hu=> ?_⟩;have hj:j < K.n:=by
  rw [← K.len x];exact (Lj.1 hu).1
 obtain ⟨b',off',e',hc⟩:=h.1 (i * K.n+j) u ((K.jw hx hj).trans hu);rw [e] at e';cases e';rw [Nat.add_assoc];exact hc
theorem Kind.ep.bt {w:w_} {a:Option d_} {l:List α} (h:K.ep w a l) {i:Nat} {x:α} (hx:l[i]? =o_ x) {r:Option d_ × List v_} (hr:r∈K.kids x):Src w r.1 r.2:=h.2 x (KA hx) r hr
theorem Kind.ep.below {w w':w_} {a:Option d_} {l:List α} (h:K.ep w a l) (hb:B_ w.heap.size w w'):K.ep w' a l:=⟨h.1.below hb,fun x hx r hr=>(h.2 x hx r hr).below hb⟩
theorem Kind.bU.below {w w':w_} {a:Option d_} {l:List α} (h:K.bU w a l) (hb:B_ w.heap.size w w'):K.bU w' a l:=⟨h.1.below hb,fun x hx r hr=>(h.2 x hx r hr).below hb⟩
end
def CC (o:dN):List v_:= [i_ j_ o.1,i_ j_ o.2.1,i_ j_ o.2.2.1,t_ o.2.2.2]
def fk:Kind dN:=⟨4,CC,fun _=> [],by decide,fun _=>rfl⟩
def bT:Kind ByteArray:=⟨1,fun s=> [t_ s],fun _=> [],by decide,fun _=>rfl⟩
def iG (w:w_) (g len:Nat) (K N M:Nat→Int) (S:Nat→ByteArray):Prop:=g < w.heap.size∧ ∀ j,j < len * 4→w.cell? ⟨g,j,n_⟩=o_ (xe K N M S j)
theorem iG.of_block {w w':w_} {g len:Nat} {K N M:Nat→Int} {S:Nat→ByteArray} (h:iG w g len K N M S) (e:w'.heap[g]? =w.heap[g]?):iG w' g len K N M S:=by
 exact Zbx
theorem iG.below {w w':w_} {g len:Nat} {K N M:Nat→Int} {S:Nat→ByteArray} (h:iG w g len K N M S) (hb:B_ w.heap.size w w'):iG w' g len K N M S:=h.of_block (hb.block g h.1)
theorem iG.c0 {w:w_} {g len:Nat} {K N M:Nat→Int} {S:Nat→ByteArray} (h:iG w g len K N M S) {i:Nat} (hi:i < len):w.cell? ⟨g,i * 4,n_⟩=o_ (i_ j_ (K i)):=by rw [← opV_0 K N M S]; exact h.2 _ (by omega)
theorem iG.c1 {w:w_} {g len:Nat} {K N M:Nat→Int} {S:Nat→ByteArray} (h:iG w g len K N M S) {i:Nat} (hi:i < len):w.cell? ⟨g,i * 4+1,n_⟩=o_ (i_ j_ (N i)):=by rw [← opV_1 K N M S]; exact h.2 _ (by omega)
theorem iG.c2 {w:w_} {g len:Nat} {K N M:Nat→Int} {S:Nat→ByteArray} (h:iG w g len K N M S) {i:Nat} (hi:i < len):w.cell? ⟨g,i * 4+2,n_⟩=o_ (i_ j_ (M i)):=by rw [← opV_2 K N M S]; exact h.2 _ (by omega)
theorem iG.c3 {w:w_} {g len:Nat} {K N M:Nat→Int} {S:Nat→ByteArray} (h:iG w g len K N M S) {i:Nat} (hi:i < len):w.cell? ⟨g,i * 4+3,n_⟩=o_ (t_ (S i)):=by rw [← opV_3 K N M S]; exact h.2 _ (by omega)
def j8 (K N M:Nat→Int) (S:Nat→ByteArray) (i:Nat):Bool:=mQ (K i) (N i) (M i) (S i)
def nq (len:Nat) (K N M:Nat→Int) (S:Nat→ByteArray):Bool:=decide (1≤len∧len≤20∧ ∀ i,i < len→j8 K N M S i=true)
theorem vM {len:Nat} {K N M:Nat→Int} {S:Nat→ByteArray} (h:1≤len∧len≤20∧ ∀ i,i < len→j8 K N M S i=true):nq len K N M S=true:=by simp only [nq]; exact decide_eq_true h
theorem iS {len:Nat} {K N M:Nat→Int} {S:Nat→ByteArray} (h: ¬ (1≤len∧len≤20∧ ∀ i,i < len→j8 K N M S i=true)):nq len K N M S=false:=by simp only [nq]; exact decide_eq_false h
end
section
open Go.RowKit
attribute [local go_sem ↓] Kc Kd
theorem pu (k:Int) (w:w_):k_ J3 264 #[a_ #[i_ j_ k]] w fun e w'=>e=r_ (a_ #[i_ j_ k,i_ j_ 0,i_ j_ 0,t_ ByteArray.empty])∧B_ w.heap.size w w':=by
 go_enter func264,ntmps264
 go_wp2;exact KT (v:=a_ #[i_ j_ k,i_ j_ 0,i_ j_ 0,t_ ByteArray.empty]) (by simp [results,results264,go_sem]; try rfl) rfl ⟨rfl,by go_grown⟩
theorem oJ (k n:Int) (w:w_):k_ J3 260 #[a_ #[i_ j_ k,i_ j_ n]] w fun e w'=>e=r_ (a_ #[i_ j_ k,i_ j_ n,i_ j_ 0,t_ ByteArray.empty])∧B_ w.heap.size w w':=by
 go_enter func260,ntmps260
 go_wp2;exact KT (v:=a_ #[i_ j_ k,i_ j_ n,i_ j_ 0,t_ ByteArray.empty]) (by simp [results,results260,go_sem]; try rfl) rfl ⟨rfl,by go_grown⟩
theorem xk (k n m:Int) (w:w_):k_ J3 261 #[a_ #[i_ j_ k,i_ j_ n,i_ j_ m]] w fun e w'=>e=r_ (a_ #[i_ j_ k,i_ j_ n,i_ j_ m,t_ ByteArray.empty])∧B_ w.heap.size w w':=by
 go_enter func261,ntmps261
 go_wp2;exact KT (v:=a_ #[i_ j_ k,i_ j_ n,i_ j_ m,t_ ByteArray.empty]) (by simp [results,results261,go_sem]; try rfl) rfl ⟨rfl,by go_grown⟩
theorem Fc (k n m:Int) (s:ByteArray) (w:w_):k_ J3 262 #[a_ #[i_ j_ k,i_ j_ n,i_ j_ m,t_ s]] w fun e w'=>e=r_ (a_ #[i_ j_ k,i_ j_ n,i_ j_ m,t_ s])∧B_ w.heap.size w w':=by
 go_enter func262,ntmps262
 go_wp2;exact KT (v:=a_ #[i_ j_ k,i_ j_ n,i_ j_ m,t_ s]) (by simp [results,results262,go_sem]; try rfl) rfl ⟨rfl,by go_grown⟩
theorem xS (k n:Int) (s:ByteArray) (w:w_):k_ J3 263 #[a_ #[i_ j_ k,i_ j_ n,t_ s]] w fun e w'=>e=r_ (a_ #[i_ j_ k,i_ j_ n,i_ j_ 0,t_ s])∧B_ w.heap.size w w':=by
 go_enter func263,ntmps263
 go_wp2;exact KT (v:=a_ #[i_ j_ k,i_ j_ n,i_ j_ 0,t_ s]) (by simp [results,results263,go_sem]; try rfl) rfl ⟨rfl,by go_grown⟩
theorem DB (k n m:Int) (s:ByteArray) (w:w_) (hk:pJ k):
  k_ J3 35 #[a_ #[i_ j_ k,i_ j_ n,i_ j_ m,t_ s]] w fun e w'=>e=r_ (u_ #[.iface 151 (a_ #[i_ j_ k,i_ j_ n]),b_ true])∧B_ w.heap.size w w':=by
 rcases hk with rfl | rfl | rfl | rfl | rfl | rfl | rfl | rfl | rfl
 all_goals
  go_enter func35,ntmps35
  go_wp2;go_ret2;exact ⟨rfl,by go_grown⟩
theorem AC (k n m:Int) (s:ByteArray) (w:w_) (hk:mF k):
  k_ J3 35 #[a_ #[i_ j_ k,i_ j_ n,i_ j_ m,t_ s]] w fun e w'=>e=r_ (u_ #[.iface 153 (a_ #[i_ j_ k,i_ j_ n,i_ j_ m]),b_ true])∧B_ w.heap.size w w':=by
 rcases hk with rfl | rfl | rfl | rfl
 all_goals
  go_enter func35,ntmps35
  go_wp2;go_ret2;exact ⟨rfl,by go_grown⟩
theorem AE (k n m:Int) (s:ByteArray) (w:w_) (hk:k=8):
  k_ J3 35 #[a_ #[i_ j_ k,i_ j_ n,i_ j_ m,t_ s]] w fun e w'=>e=r_ (u_ #[.iface 155 (a_ #[i_ j_ k,i_ j_ n,i_ j_ m,t_ s]),b_ true])∧B_ w.heap.size w w':=by
 exact Zbz
theorem BJ (k n m:Int) (s:ByteArray) (w:w_) (hk:isText k):
  k_ J3 35 #[a_ #[i_ j_ k,i_ j_ n,i_ j_ m,t_ s]] w fun e w'=>e=r_ (u_ #[.iface 157 (a_ #[i_ j_ k,i_ j_ n,t_ s]),b_ true])∧B_ w.heap.size w w':=by
 rcases hk with rfl | rfl
 all_goals
  go_enter func35,ntmps35
  go_wp2;go_ret2;exact ⟨rfl,by go_grown⟩
theorem Ag (k n m:Int) (s:ByteArray) (w:w_) (hk:k=17):
  k_ J3 35 #[a_ #[i_ j_ k,i_ j_ n,i_ j_ m,t_ s]] w fun e w'=>e=r_ (u_ #[.iface 159 (a_ #[i_ j_ k]),b_ true])∧B_ w.heap.size w w':=by
 exact Zbz
theorem BR (k n m:Int) (s:ByteArray) (w:w_) (hk: ¬ (1≤k∧k≤17)):
  k_ J3 35 #[a_ #[i_ j_ k,i_ j_ n,i_ j_ m,t_ s]] w fun e w'=>e=r_ (u_ #[.iface 159 (a_ #[i_ j_ 0]),b_ false])∧B_ w.heap.size w w':=by
 have e1:(k == 1)=false:=by simp; omega
 have e2:(k == 2)=false:=by simp; omega
 have e3:(k == 3)=false:=by simp; omega
 have e4:(k == 4)=false:=by simp; omega
 have e5:(k == 5)=false:=by simp; omega
 have e6:(k == 6)=false:=by simp; omega
 have e7:(k == 7)=false:=by simp; omega
 have e8:(k == 8)=false:=by simp; omega
 have e9:(k == 9)=false:=by simp; omega
 have Pn:(k == 10)=false:=by simp; omega
 have e11:(k == 11)=false:=by simp; omega
 have PF:(k == 12)=false:=by simp; omega
 have PG:(k == 13)=false:=by simp; omega
 have e14:(k == 14)=false:=by simp; omega
 have e15:(k == 15)=false:=by simp; omega
 have e16:(k == 16)=false:=by simp; omega
 have PH:(k == 17)=false:=by simp; omega
 go_enter func35,ntmps35
 go_wp2;go_ret2;exact ⟨rfl,by go_grown⟩
end
section
open Go.RowKit
structure fO (r:Nat) (a:Option d_) (len cap:Nat) (w x:w_) (q:Nat) (k n m:Int) (t:ByteArray):Prop where
 res:x.heap[w.heap.size]? =o_ (c_ #[i_ j_ 0,i_ j_ 0,i_ j_ 0,t_ ⟨#[]⟩] 40)
 op:x.heap[q]? =o_ (c_ #[i_ j_ k,i_ j_ n,i_ j_ m,t_ t] 40)
 but:gG r w x
 rd:Rd r a len cap x
 st:Rd r a len cap w
 lt:w.heap.size < q
theorem fO.rl {r:Nat} {a:Option d_} {len cap:Nat} {w x:w_} {q:Nat} {k n m:Int} {t:ByteArray} (h:fO r a len cap w x q k n m t):r < w.heap.size:=h.st.lt
theorem fO.move {r:Nat} {a:Option d_} {len cap:Nat} {w x y:w_} {q:Nat} {k n m:Int} {t:ByteArray} (h:fO r a len cap w x q k n m t) (hb:gG r x y) (hr:Rd r a len cap y):fO r a len cap w y q k n m t:=by
 have h1:=h.rl;have h2:=h.lt;exact ⟨(hb.block _ (J2.1 h.res).1 (by omega)).trans h.res,(hb.block _ (J2.1 h.op).1 (by omega)).trans h.op,h.but.trans hb,hr,h.st,h2⟩
theorem vp {r:Nat} {a:Option d_} {len cap:Nat} {w x:w_} (h:Rd r a len cap x) (st:Rd r a len cap w) (hb:gG r w x) {b i:Nat} (hbl:w.heap.size≤b) (v:v_):Rd r a len cap (x.setCell ⟨b,i,n_⟩ v):=by
 obtain ⟨p,hp,hrow⟩:=h.1;have hr:=st.lt;exact ⟨⟨p,hp,(K6 _ _ _ _ ZcJ).trans hrow⟩,st.2.but (hb.sF b i v hbl)⟩
theorem fO.set {r:Nat} {a:Option d_} {len cap:Nat} {w x:w_} {q:Nat} {k n m k' n' m':Int} {t t':ByteArray} (h:fO r a len cap w x q k n m t) {i:Nat} {v:v_} (e:(#[i_ j_ k,i_ j_ n,i_ j_ m,t_ t] :Array v_).setIfInBounds i v= #[i_ j_ k',i_ j_ n',i_ j_ m',t_ t']):fO r a len cap w (x.setCell ⟨q,i,n_⟩ v) q k' n' m' t':=by
 have h2:=h.lt;refine ⟨(K6 _ _ _ _ ZcJ).trans h.res,?_,h.but.sF q i v (by omega),vp h.rd h.st h.but (by omega) v,h.st,h2⟩;have h0:=K7 _ q i _ _ v h.op;rw [e] at h0;exact h0
theorem fO.ends {r:Nat} {a:Option d_} {len cap:Nat} {w x:w_} {q:Nat} {k n m k' n' m':Int} {t t':ByteArray} (h:fO r a len cap w x q k n m t):
  ((((x.setCell ⟨w.heap.size,0,n_⟩ (i_ j_ k')).setCell ⟨w.heap.size,1,n_⟩ (i_ j_ n')).setCell ⟨w.heap.size,2,n_⟩ (i_ j_ m')).setCell ⟨w.heap.size,3,n_⟩ (t_ t')).heap[w.heap.size]? =o_ (c_ #[i_ j_ k',i_ j_ n',i_ j_ m',t_ t'] 40)∧
  gG r w ((((x.setCell ⟨w.heap.size,0,n_⟩ (i_ j_ k')).setCell ⟨w.heap.size,1,n_⟩ (i_ j_ n')).setCell ⟨w.heap.size,2,n_⟩ (i_ j_ m')).setCell ⟨w.heap.size,3,n_⟩ (t_ t'))∧
  Rd r a len cap ((((x.setCell ⟨w.heap.size,0,n_⟩ (i_ j_ k')).setCell ⟨w.heap.size,1,n_⟩ (i_ j_ n')).setCell ⟨w.heap.size,2,n_⟩ (i_ j_ m')).setCell ⟨w.heap.size,3,n_⟩ (t_ t')):=by
 have b0:=h.but.sF w.heap.size 0 (i_ j_ k') (Ki _);have b1:=b0.sF w.heap.size 1 (i_ j_ n') (Ki _);have b2:=b1.sF w.heap.size 2 (i_ j_ m') (Ki _);have b3:=b2.sF w.heap.size 3 (t_ t') (Ki _);have d0:=vp h.rd h.st h.but (i:=0) (Ki _) (i_ j_ k');have d1:=vp d0 h.st b0 (i:=1) (Ki _) (i_ j_ n');have d2:=vp d1 h.st b1 (i:=2) (Ki _) (i_ j_ m');have d3:=vp d2 h.st b2 (i:=3) (Ki _) (t_ t');refine ⟨?_,b3,d3⟩;have e0:=K7 _ w.heap.size 0 _ _ (i_ j_ k') h.res;have e1:=K7 _ w.heap.size 1 _ _ (i_ j_ n') e0;have e2:=K7 _ w.heap.size 2 _ _ (i_ j_ m') e1;have e3:=K7 _ w.heap.size 3 _ _ (t_ t') e2;simpa using e3
theorem fO.cells {r:Nat} {a:Option d_} {len cap:Nat} {w x:w_} {q:Nat} {k n m:Int} {t:ByteArray} (h:fO r a len cap w x q k n m t):
  (x.cell? ⟨q,0,n_⟩=o_ (i_ j_ k)∧x.cell? ⟨q,1,n_⟩=o_ (i_ j_ n)∧x.cell? ⟨q,2,n_⟩=o_ (i_ j_ m)∧x.cell? ⟨q,3,n_⟩=o_ (t_ t))∧
  (x.cell? ⟨w.heap.size,0,n_⟩=o_ (i_ j_ 0)∧x.cell? ⟨w.heap.size,1,n_⟩=o_ (i_ j_ 0)∧x.cell? ⟨w.heap.size,2,n_⟩=o_ (i_ j_ 0)∧x.cell? ⟨w.heap.size,3,n_⟩=o_ (t_ ⟨#[]⟩))∧
  (∀ i,x.frozen? ⟨q,i,n_⟩=false)∧(∀ i,x.frozen? ⟨w.heap.size,i,n_⟩=false):=by
 refine ⟨⟨?_,?_,?_,?_⟩,⟨?_,?_,?_,?_⟩,fun i=>Ko _ _ _ _ _ h.op,fun i=>Ko _ _ _ _ _ h.res⟩
 ·rw [K5 _ _ _ _ _ _ h.op]; rfl
 ·rw [K5 _ _ _ _ _ _ h.op]; rfl
 ·rw [K5 _ _ _ _ _ _ h.op]; rfl
 ·rw [K5 _ _ _ _ _ _ h.op]; rfl
 ·rw [K5 _ _ _ _ _ _ h.res]; rfl
 ·rw [K5 _ _ _ _ _ _ h.res]; rfl
 ·rw [K5 _ _ _ _ _ _ h.res]; rfl
 ·rw [K5 _ _ _ _ _ _ h.res]; rfl
end
section
open Go.RowKit
attribute [local go_sem ↓] Kc Kd
theorem drawn1 {fn:Func} {p u:Tmp} (h:fn.results= #[.cell p 26,.tmp u]) {tmps:Array v_} {w:w_} {g:Nat} {x y:v_} (hp:tmps.getD p undef=p_ (o_ ⟨g,0,n_⟩)) (hg:w.heap[g]? =o_ (c_ #[x,y] 26)):
  (results fn tmps).run J3 w= .ok (u_ #[a_ #[x,y],tmps.getD u undef]) w:=by
 rw [results_cell_tmp h,hp]
 have:=run_loadVar_row (P:=J3) w g _ 26 _ _ _ hg underlying26 rfl akj
 simp [asAddr,this]
theorem Drw.start {a:Option d_} {len cap:Nat} {w w1 w2:w_} {g n c:Nat} {mj:Int} {Z:Nat→Int}
  (hb1:B_ (w.heap.size+1) (w.alloc (c_ #[i_ j_ 0,s_ n_ 0 0] 26)) w1) (hr1:Rd (w.heap.size+1) a len cap w1) (hb2:gG (w.heap.size+1) w1 w2) (hr2:Rd (w.heap.size+1) a len cap w2) (hg:w1.heap.size≤g) (hw:lT w2 g n Z):
  Drw a len cap w (w2.alloc (c_ #[i_ j_ mj,s_ (o_ ⟨g,0,n_⟩) n c] 26)) w2.heap.size g n c mj Z:=by
 have s1:=hr1.lt;have s2:=hb2.size;have g2:=hw.lt;have res:w2.heap[w.heap.size]? =o_ (c_ #[i_ j_ 0,s_ n_ 0 0] 26):=((hb2.block _ (by omega) (by omega)).trans (hb1.block _ (by omega))).trans (Kj w _);have cd:B_ w.heap.size w w2:=(((Kp _ _).alloc (Ki _) _).trans (hb1.mono (by omega))).trans (hb2.below (by omega) (by omega));exact ⟨hr2.below ((Kp _ _).alloc (Ki _) _),(PU (by omega)).trans res,Kj w2 _,hw.alloc _,cd.alloc (by omega) _,by omega,by omega,by simp,by simp; omega⟩
theorem ai7 (a:Option d_) (len cap:Nat) (w:w_) (hl:len≤1048576) (hb:Bytes w a len):
  k_ J3 8 #[s_ a len cap] w fun e w'=> ∃ (major t:Int) (g n c:Nat) (Z:Nat→Int),e=r_ (u_ #[a_ #[i_ j_ major,s_ (o_ ⟨g,0,n_⟩) n c],i_ j_ t])∧n≤4∧w.heap.size≤g∧lT w' g n Z∧(∀ j,-1000≤Z j∧Z j≤1000)∧B_ w.heap.size w w':=by
 go_enter func8,ntmps8
 have hb0:Bytes (w.alloc (c_ #[i_ j_ 0,s_ n_ 0 0] 26)) a len:=hb.below ((Kp _ _).alloc (Ki _) _);go_wp2_with fail;refine (Gj a len cap _ hb0).mono ?_;rintro e w1 ⟨rfl,hb1,hr1,-⟩;rw [RR] at hb1 hr1;go_wp2_with fail;refine (akY _ a len cap w1 hl hr1).mono ?_;rintro e w2 ⟨mj,g,n,c,Z,rfl,hn,hg,hw,hz,hb2,hr2⟩;have HD:Hid (Drw a len cap w (w2.alloc (c_ #[i_ j_ mj,s_ (o_ ⟨g,0,n_⟩) n c] 26)) w2.heap.size g n c mj Z):=Drw.start hb1 hr1 hb2 hr2 hg hw;clear hb1 hr1 hb2 hr2 hg hw hb0;go_wp2_with fail;generalize w2.alloc (c_ #[i_ j_ mj,s_ (o_ ⟨g,0,n_⟩) n c] 26)=W2 at *;generalize w2.heap.size=B at *;have f2:=HD.I.fr;have b0:=HD.I.b0;have c20:W2.cell? ⟨B,0,n_⟩=o_ (i_ j_ mj):=by simp [World.cell?,f2]
 have c21:W2.cell? ⟨B,1,n_⟩=o_ (s_ (o_ ⟨g,0,n_⟩) n c):=by simp [World.cell?,f2]
 have ne1: ¬ B=w.heap.size:=by omega
 have ne2: ¬ w.heap.size=B:=by omega
 clear f2
 go_region_held3 (fun w'=>w'.cell? ⟨B,0,n_⟩=o_ (i_ j_ mj)∧w'.cell? ⟨B,1,n_⟩=o_ (s_ (o_ ⟨g,0,n_⟩) n c)) (go_keep)
  ((
   go_at_call 20
   refine (ak5 _ a len cap _ hl ?_).mono ?_;exact HD.I.rd;rintro e w4 ⟨t,rfl,hb4,hr4⟩;have HD4:Hid (Drw a len cap w w4 B g n c mj Z):=HD.I.move hb4.alc hr4;clear hb4 hr4;have f4:=HD4.I.fr;have r4:=HD4.I.res;have c40:w4.cell? ⟨B,0,n_⟩=o_ (i_ j_ mj):=by simp [World.cell?,f4]
   have c41:w4.cell? ⟨B,1,n_⟩=o_ (s_ (o_ ⟨g,0,n_⟩) n c):=by simp [World.cell?,f4]
   have d40:w4.cell? ⟨w.heap.size,0,n_⟩=o_ (i_ j_ 0):=by simp [World.cell?,r4]
   have d41:w4.cell? ⟨w.heap.size,1,n_⟩=o_ (s_ n_ 0 0):=by simp [World.cell?,r4]
   have z40:w4.frozen? ⟨w.heap.size,0,n_⟩=false:=Ko _ _ _ _ _ r4;have z41:w4.frozen? ⟨w.heap.size,1,n_⟩=false:=Ko _ _ _ _ _ r4;clear f4 r4))
 go_wp2;refine KT (drawn1 results8 (by rfl) (HD4.I.ends _ _).2.2) rfl ?_;obtain ⟨e1,e2,_⟩:=HD4.I.ends (i_ j_ mj) (s_ (o_ ⟨g,0,n_⟩) n c);exact ⟨mj,t,g,n,c,Z,rfl,hn,by have:=HD4.I.g0; omega,e1,hz,e2⟩
end
section
open Go.RowKit
structure Px (w:w_) (k n m:Int) (s:ByteArray) (W:w_):Prop where
 box:W.heap[w.heap.size]? =o_ (c_ #[i_ j_ k,i_ j_ n,i_ j_ m,t_ s] 40)
 low:B_ w.heap.size w W
section
variable {w W W2:w_} {k n m:Int} {s:ByteArray}
theorem Px.below (h:Px w k n m s W) (hb:B_ W.heap.size W W2):Px w k n m s W2:=⟨(hb.block _ (J2.1 h.box).1).trans h.box,h.low.trans (hb.mono h.low.size)⟩
theorem Px.cells (h:Px w k n m s W):W.cell? ⟨w.heap.size,0,n_⟩=o_ (i_ j_ k)∧W.cell? ⟨w.heap.size,1,n_⟩=o_ (i_ j_ n)∧W.cell? ⟨w.heap.size,2,n_⟩=o_ (i_ j_ m)∧W.cell? ⟨w.heap.size,3,n_⟩=o_ (t_ s):=by
 simp [World.cell?,h.box]
end
theorem PD (k n m:Int) (s:ByteArray) (w:w_) (hk:k=1∨k=2∨k=4∨k=5∨k=6∨k=11∨k=14∨k=15∨k=16) (h1:1≤n∧n≤1000):
  k_ J3 108 #[a_ #[i_ j_ k,i_ j_ n,i_ j_ m,t_ s]] w fun e w'=>e=r_ (t_ (MF k n m s))∧B_ w.heap.size w w':=by
 have HT:Hid (MF k n m s=ME k ++ ⟨#[32]⟩ ++ Ij n):=by
  show _=_
  rcases hk with rfl | rfl | rfl | rfl | rfl | rfl | rfl | rfl | rfl <;> rfl
 have k0:0≤k:=by omega
 have k1:k < 18:=by omega
 have HK:Hid (k≤17∧((k.toNat:Nat):Int)=k):=⟨by omega,by omega⟩
 have z0:=MH k;generalize hN:ME k=N at *;have M9:Hid (ME k=N):=hN;clear hN;have z1:=MD (n:=n) (by omega) (by omega);have q0: ¬ 9223372036854775807 < N.size+1:=by omega
 have q1: ¬ 9223372036854775807 < N.size+1+(Ij n).size:=by omega
 have HN:Hid (-9999999999≤n∧n≤9999999999):=⟨by omega,by omega⟩
 have PH:(k == 17)=false:=by simp; omega
 have e3:(k == 3)=false:=by simp; omega
 have e7:(k == 7)=false:=by simp; omega
 have e9:(k == 9)=false:=by simp; omega
 have PF:(k == 12)=false:=by simp; omega
 have e8:(k == 8)=false:=by simp; omega
 have Pn:(k == 10)=false:=by simp; omega
 have PG:(k == 13)=false:=by simp; omega
 have S:Hid (Px w k n m s (w.alloc (c_ #[i_ j_ k,i_ j_ n,i_ j_ m,t_ s] 40))):=⟨Kj _ _,(Kp _ _).alloc (Ki _) _⟩
 clear hk z0 z1 h1
 go_enter func108,ntmps108
 go_upto_region 1 with fail;generalize w.alloc (c_ #[i_ j_ k,i_ j_ n,i_ j_ m,t_ s] 40)=A at *;replace S:Hid (Px w k n m s _):=S.I.below (Kp _ _).drew;refine Kr (S:=fun W=>Px w k n m s W) ZcI S.I (fun _=> ?_);generalize World.drew _=V at *;refine tt 1 S.I ?_ (hy:=fun w0 hS0=>by obtain ⟨b0,-⟩:=hS0.cells; go_simp; try with_reducible rfl);refine tt 2 S.I ?_ (hy:=fun w0 hS0=>by obtain ⟨b0,-⟩:=hS0.cells; go_simp; try with_reducible rfl);refine L7 0 (fun K hK=> ?_);go_wp2_with fail;refine (MG V).mono ?_;rintro e W1 ⟨rfl,hn,hb⟩;have n0:W1.cell? ⟨V.heap.size,k.toNat,n_⟩=o_ (t_ N):=by have:=hn.2 k.toNat Zdn; rw [HK.I.2,M9.I] at this; exact this
 replace S:Hid (Px w k n m s _):=S.I.below hb;clear hb hn;refine hK.out _ _ S.I (fun _=> ?_);clear hK K
 try simp only [pt,sb,s0,s1]
 refine tt 3 S.I ?_;refine L7 4 (fun K hK=> ?_);go_wp2;refine hK.out _ _ S.I (fun _=> ?_);clear hK K n0
 try simp only [pt,sb,s0,s1]
 refine tt 5 S.I ?_;refine K3 ZcI ?_ _;obtain ⟨b0,b1,b2,b3⟩:=S.I.cells;go_wp2_with fail;refine (MC n HN.I.1 HN.I.2 _).mono ?_;rintro e W2 ⟨rfl,hb⟩;replace S:Hid (Px w k n m s _):=S.I.below hb;clear hb b0 b1 b2 b3;obtain ⟨b0,b1,b2,b3⟩:=S.I.cells;exact H_
theorem PB (k n m:Int) (s:ByteArray) (w:w_) (hk:k=3∨k=7∨k=9∨k=12) (h1:1≤n∧n≤1000) (h2: -1≤m∧m≤1000):
  k_ J3 108 #[a_ #[i_ j_ k,i_ j_ n,i_ j_ m,t_ s]] w fun e w'=>e=r_ (t_ (MF k n m s))∧B_ w.heap.size w w':=by
 have HT:Hid (MF k n m s=ME k ++ ⟨#[32]⟩ ++ Ij n ++ ⟨#[32]⟩ ++ Ij m):=by
  show _=_
  rcases hk with rfl | rfl | rfl | rfl <;> rfl
 have k0:0≤k:=by omega
 have k1:k < 18:=by omega
 have HK:Hid (k≤17∧((k.toNat:Nat):Int)=k):=⟨by omega,by omega⟩
 have z0:=MH k;generalize hN:ME k=N at *;have M9:Hid (ME k=N):=hN;clear hN;have z1:=MD (n:=n) (by omega) (by omega);have z2:=MD (n:=m) (by omega) (by omega);have q0: ¬ 9223372036854775807 < N.size+1:=by omega
 have q1: ¬ 9223372036854775807 < N.size+1+(Ij n).size:=by omega
 have q2: ¬ 9223372036854775807 < N.size+1+(Ij n).size+1:=by omega
 have q3: ¬ 9223372036854775807 < N.size+1+(Ij n).size+1+(Ij m).size:=by omega
 have HN:Hid (-9999999999≤n∧n≤9999999999):=⟨by omega,by omega⟩
 have HM:Hid (-9999999999≤m∧m≤9999999999):=⟨by omega,by omega⟩
 have PH:(k == 17)=false:=by simp; omega
 have e8:(k == 8)=false:=by simp; omega
 have Pn:(k == 10)=false:=by simp; omega
 have PG:(k == 13)=false:=by simp; omega
 have S:Hid (Px w k n m s (w.alloc (c_ #[i_ j_ k,i_ j_ n,i_ j_ m,t_ s] 40))):=⟨Kj _ _,(Kp _ _).alloc (Ki _) _⟩
 have HKK:Hid _:=hk;clear hk z0 z1 h1 z2 h2
 go_enter func108,ntmps108
 go_upto_region 1 with fail;generalize w.alloc (c_ #[i_ j_ k,i_ j_ n,i_ j_ m,t_ s] 40)=A at *;replace S:Hid (Px w k n m s _):=S.I.below (Kp _ _).drew;refine Kr (S:=fun W=>Px w k n m s W) ZcI S.I (fun _=> ?_);generalize World.drew _=V at *;refine tt 1 S.I ?_ (hy:=fun w0 hS0=>by obtain ⟨b0,-⟩:=hS0.cells; go_simp; try with_reducible rfl);refine tt 2 S.I ?_ (hy:=fun w0 hS0=>by obtain ⟨b0,-⟩:=hS0.cells; go_simp; try with_reducible rfl);refine L7 0 (fun K hK=> ?_);go_wp2_with fail;refine (MG V).mono ?_;rintro e W1 ⟨rfl,hn,hb⟩;have n0:W1.cell? ⟨V.heap.size,k.toNat,n_⟩=o_ (t_ N):=by have:=hn.2 k.toNat Zdn; rw [HK.I.2,M9.I] at this; exact this
 replace S:Hid (Px w k n m s _):=S.I.below hb;clear hb hn;refine hK.out _ _ S.I (fun _=> ?_);clear hK K
 try simp only [pt,sb,s0,s1]
 refine tt 3 S.I ?_;refine L7 4 (fun K hK=> ?_);go_wp2;refine hK.out _ _ S.I (fun _=> ?_);clear hK K n0
 try simp only [pt,sb,s0,s1]
 refine tt 5 S.I ?_;refine K3 ZcI ?_ _;obtain ⟨b0,b1,b2,b3⟩:=S.I.cells;go_wp2_with fail;refine (MC n HN.I.1 HN.I.2 _).mono ?_;rintro e W2 ⟨rfl,hb⟩;replace S:Hid (Px w k n m s _):=S.I.below hb;clear hb b0 b1 b2 b3;obtain ⟨b0,b1,b2,b3⟩:=S.I.cells;rcases HKK.I with hk | hk | hk | hk
 ·skip
  have e3:(k == 3)=true:=by simp [hk]
  have e7:(k == 7)=false:=by simp [hk]
  have e9:(k == 9)=false:=by simp [hk]
  exact ZcA
 ·skip
  have e3:(k == 3)=false:=by simp [hk]
  have e7:(k == 7)=true:=by simp [hk]
  have e9:(k == 9)=false:=by simp [hk]
  exact ZcA
 ·skip
  have e3:(k == 3)=false:=by simp [hk]
  have e7:(k == 7)=false:=by simp [hk]
  have e9:(k == 9)=true:=by simp [hk]
  exact ZcA
 ·skip
  have e3:(k == 3)=false:=by simp [hk]
  have e7:(k == 7)=false:=by simp [hk]
  have e9:(k == 9)=false:=by simp [hk]
  have PF:(k == 12)=true:=by simp [hk]
  exact wl
theorem Py (k n m:Int) (s:ByteArray) (w:w_) (hk:k=8) (h1:1≤n∧n≤1000) (h2: -1≤m∧m≤1000) (h3:s.size≤20):
  k_ J3 108 #[a_ #[i_ j_ k,i_ j_ n,i_ j_ m,t_ s]] w fun e w'=>e=r_ (t_ (MF k n m s))∧B_ w.heap.size w w':=by
 have HT:Hid (MF k n m s=ME k ++ ⟨#[32]⟩ ++ Ij n ++ ⟨#[32]⟩ ++ Ij m ++ ⟨#[32]⟩ ++ s):=by
  show _=_
  subst hk; rfl
 have k0:0≤k:=by omega
 have k1:k < 18:=by omega
 have HK:Hid (k≤17∧((k.toNat:Nat):Int)=k):=⟨by omega,by omega⟩
 have z0:=MH k;generalize hN:ME k=N at *;have M9:Hid (ME k=N):=hN;clear hN;have z1:=MD (n:=n) (by omega) (by omega);have z2:=MD (n:=m) (by omega) (by omega);have q0: ¬ 9223372036854775807 < N.size+1:=by omega
 have q1: ¬ 9223372036854775807 < N.size+1+(Ij n).size:=by omega
 have q2: ¬ 9223372036854775807 < N.size+1+(Ij n).size+1:=by omega
 have q3: ¬ 9223372036854775807 < N.size+1+(Ij n).size+1+(Ij m).size:=by omega
 have q4: ¬ 9223372036854775807 < N.size+1+(Ij n).size+1+(Ij m).size+1:=by omega
 have q5: ¬ 9223372036854775807 < N.size+1+(Ij n).size+1+(Ij m).size+1+s.size:=by omega
 have HN:Hid (-9999999999≤n∧n≤9999999999):=⟨by omega,by omega⟩
 have HM:Hid (-9999999999≤m∧m≤9999999999):=⟨by omega,by omega⟩
 have PH:(k == 17)=false:=by simp; omega
 have e3:(k == 3)=false:=by simp; omega
 have e7:(k == 7)=false:=by simp; omega
 have e9:(k == 9)=false:=by simp; omega
 have PF:(k == 12)=false:=by simp; omega
 have e8:(k == 8)=true:=by simp [hk]
 have Pn:(k == 10)=false:=by simp; omega
 have PG:(k == 13)=false:=by simp; omega
 have S:Hid (Px w k n m s (w.alloc (c_ #[i_ j_ k,i_ j_ n,i_ j_ m,t_ s] 40))):=⟨Kj _ _,(Kp _ _).alloc (Ki _) _⟩
 clear hk z0 z1 h1 z2 h2 h3
 go_enter func108,ntmps108
 go_upto_region 1 with fail;generalize w.alloc (c_ #[i_ j_ k,i_ j_ n,i_ j_ m,t_ s] 40)=A at *;replace S:Hid (Px w k n m s _):=S.I.below (Kp _ _).drew;refine Kr (S:=fun W=>Px w k n m s W) ZcI S.I (fun _=> ?_);generalize World.drew _=V at *;refine tt 1 S.I ?_ (hy:=fun w0 hS0=>by obtain ⟨b0,-⟩:=hS0.cells; go_simp; try with_reducible rfl);refine tt 2 S.I ?_ (hy:=fun w0 hS0=>by obtain ⟨b0,-⟩:=hS0.cells; go_simp; try with_reducible rfl);refine L7 0 (fun K hK=> ?_);go_wp2_with fail;refine (MG V).mono ?_;rintro e W1 ⟨rfl,hn,hb⟩;have n0:W1.cell? ⟨V.heap.size,k.toNat,n_⟩=o_ (t_ N):=by have:=hn.2 k.toNat Zdn; rw [HK.I.2,M9.I] at this; exact this
 replace S:Hid (Px w k n m s _):=S.I.below hb;clear hb hn;refine hK.out _ _ S.I (fun _=> ?_);clear hK K
 try simp only [pt,sb,s0,s1]
 refine tt 3 S.I ?_;refine L7 4 (fun K hK=> ?_);go_wp2;refine hK.out _ _ S.I (fun _=> ?_);clear hK K n0
 try simp only [pt,sb,s0,s1]
 refine tt 5 S.I ?_;refine K3 ZcI ?_ _;obtain ⟨b0,b1,b2,b3⟩:=S.I.cells;go_wp2_with fail;refine (MC n HN.I.1 HN.I.2 _).mono ?_;rintro e W2 ⟨rfl,hb⟩;replace S:Hid (Px w k n m s _):=S.I.below hb;clear hb b0 b1 b2 b3;obtain ⟨b0,b1,b2,b3⟩:=S.I.cells;go_upto_region 12 with fail;replace S:Hid (Px w k n m s _):=S.I.below (Kp _ _).drew;clear b0 b1 b2 b3;refine Kr (S:=fun W=>Px w k n m s W) ZcI S.I (fun _=> ?_);generalize World.drew _=V2 at *;refine tt 0 S.I ?_ (hy:=fun w0 hS0=>by obtain ⟨b0,b1,b2,b3⟩:=hS0.cells; go_simp; try with_reducible rfl);refine tt 1 S.I ?_ (hy:=fun w0 hS0=>by obtain ⟨b0,b1,b2,b3⟩:=hS0.cells; go_simp; try with_reducible rfl);refine tt 2 S.I ?_ (hy:=fun w0 hS0=>by obtain ⟨b0,b1,b2,b3⟩:=hS0.cells; go_simp; try with_reducible rfl);refine tt 3 S.I ?_ (hy:=fun w0 hS0=>by obtain ⟨b0,b1,b2,b3⟩:=hS0.cells; go_simp; try with_reducible rfl);refine tt 7 S.I ?_ (hy:=fun w0 hS0=>by obtain ⟨b0,b1,b2,b3⟩:=hS0.cells; go_simp; try with_reducible rfl);refine tt 8 S.I ?_ (hy:=fun w0 hS0=>by obtain ⟨b0,b1,b2,b3⟩:=hS0.cells; go_simp; try with_reducible rfl);refine L7 4 (fun K hK=> ?_);go_wp2_with fail;refine (MC m HM.I.1 HM.I.2 _).mono ?_;rintro e W3 ⟨rfl,hb⟩;replace S:Hid (Px w k n m s _):=S.I.below hb;clear hb;refine hK.out _ _ S.I (fun _=> ?_);clear hK K
 try simp only [pt,sb,s0,s1]
 refine tt 5 S.I ?_;refine tt 6 S.I ?_;refine tt 9 S.I ?_;refine tt 10 S.I ?_;refine K3 ZcI ?_ _;exact H_
theorem Pz (k n m:Int) (s:ByteArray) (w:w_) (hk:k=10∨k=13) (h1:1≤n∧n≤1000) (h3:s.size≤20):
  k_ J3 108 #[a_ #[i_ j_ k,i_ j_ n,i_ j_ m,t_ s]] w fun e w'=>e=r_ (t_ (MF k n m s))∧B_ w.heap.size w w':=by
 have HT:Hid (MF k n m s=ME k ++ ⟨#[32]⟩ ++ Ij n ++ ⟨#[32]⟩ ++ s):=by
  show _=_
  rcases hk with rfl | rfl <;> rfl
 have k0:0≤k:=by omega
 have k1:k < 18:=by omega
 have HK:Hid (k≤17∧((k.toNat:Nat):Int)=k):=⟨by omega,by omega⟩
 have z0:=MH k;generalize hN:ME k=N at *;have M9:Hid (ME k=N):=hN;clear hN;have z1:=MD (n:=n) (by omega) (by omega);have q0: ¬ 9223372036854775807 < N.size+1:=by omega
 have q1: ¬ 9223372036854775807 < N.size+1+(Ij n).size:=by omega
 have q2: ¬ 9223372036854775807 < N.size+1+(Ij n).size+1:=by omega
 have q3: ¬ 9223372036854775807 < N.size+1+(Ij n).size+1+s.size:=by omega
 have HN:Hid (-9999999999≤n∧n≤9999999999):=⟨by omega,by omega⟩
 have PH:(k == 17)=false:=by simp; omega
 have e3:(k == 3)=false:=by simp; omega
 have e7:(k == 7)=false:=by simp; omega
 have e9:(k == 9)=false:=by simp; omega
 have PF:(k == 12)=false:=by simp; omega
 have e8:(k == 8)=false:=by simp; omega
 have S:Hid (Px w k n m s (w.alloc (c_ #[i_ j_ k,i_ j_ n,i_ j_ m,t_ s] 40))):=⟨Kj _ _,(Kp _ _).alloc (Ki _) _⟩
 have HKK:Hid _:=hk;clear hk z0 z1 h1 h3
 go_enter func108,ntmps108
 go_upto_region 1 with fail;generalize w.alloc (c_ #[i_ j_ k,i_ j_ n,i_ j_ m,t_ s] 40)=A at *;replace S:Hid (Px w k n m s _):=S.I.below (Kp _ _).drew;refine Kr (S:=fun W=>Px w k n m s W) ZcI S.I (fun _=> ?_);generalize World.drew _=V at *;refine tt 1 S.I ?_ (hy:=fun w0 hS0=>by obtain ⟨b0,-⟩:=hS0.cells; go_simp; try with_reducible rfl);refine tt 2 S.I ?_ (hy:=fun w0 hS0=>by obtain ⟨b0,-⟩:=hS0.cells; go_simp; try with_reducible rfl);refine L7 0 (fun K hK=> ?_);go_wp2_with fail;refine (MG V).mono ?_;rintro e W1 ⟨rfl,hn,hb⟩;have n0:W1.cell? ⟨V.heap.size,k.toNat,n_⟩=o_ (t_ N):=by have:=hn.2 k.toNat Zdn; rw [HK.I.2,M9.I] at this; exact this
 replace S:Hid (Px w k n m s _):=S.I.below hb;clear hb hn;refine hK.out _ _ S.I (fun _=> ?_);clear hK K
 try simp only [pt,sb,s0,s1]
 refine tt 3 S.I ?_;refine L7 4 (fun K hK=> ?_);go_wp2;refine hK.out _ _ S.I (fun _=> ?_);clear hK K n0
 try simp only [pt,sb,s0,s1]
 refine tt 5 S.I ?_;refine K3 ZcI ?_ _;obtain ⟨b0,b1,b2,b3⟩:=S.I.cells;go_wp2_with fail;refine (MC n HN.I.1 HN.I.2 _).mono ?_;rintro e W2 ⟨rfl,hb⟩;replace S:Hid (Px w k n m s _):=S.I.below hb;clear hb b0 b1 b2 b3;obtain ⟨b0,b1,b2,b3⟩:=S.I.cells;rcases HKK.I with hk | hk
 ·have Pn:(k == 10)=true:=by simp [hk]
  have PG:(k == 13)=false:=by simp [hk]
  clear hk;exact H_
 ·have Pn:(k == 10)=false:=by simp [hk]
  have PG:(k == 13)=true:=by simp [hk]
  clear hk;exact H_
theorem PA (k n m:Int) (s:ByteArray) (w:w_) (hk:k=17):
  k_ J3 108 #[a_ #[i_ j_ k,i_ j_ n,i_ j_ m,t_ s]] w fun e w'=>e=r_ (t_ (MF k n m s))∧B_ w.heap.size w w':=by
 have HT:Hid (MF k n m s=ME k):=by
  show _=_
  subst hk; rfl
 have k0:0≤k:=by omega
 have k1:k < 18:=by omega
 have HK:Hid (k≤17∧((k.toNat:Nat):Int)=k):=⟨by omega,by omega⟩
 have z0:=MH k;generalize hN:ME k=N at *;have M9:Hid (ME k=N):=hN;clear hN;have PH:(k == 17)=true:=by simp [hk]
 have e3:(k == 3)=false:=by simp; omega
 have e7:(k == 7)=false:=by simp; omega
 have e9:(k == 9)=false:=by simp; omega
 have PF:(k == 12)=false:=by simp; omega
 have e8:(k == 8)=false:=by simp; omega
 have Pn:(k == 10)=false:=by simp; omega
 have PG:(k == 13)=false:=by simp; omega
 have S:Hid (Px w k n m s (w.alloc (c_ #[i_ j_ k,i_ j_ n,i_ j_ m,t_ s] 40))):=⟨Kj _ _,(Kp _ _).alloc (Ki _) _⟩
 clear hk z0
 go_enter func108,ntmps108
 go_upto_region 1 with fail;generalize w.alloc (c_ #[i_ j_ k,i_ j_ n,i_ j_ m,t_ s] 40)=A at *;replace S:Hid (Px w k n m s _):=S.I.below (Kp _ _).drew;refine Kr (S:=fun W=>Px w k n m s W) ZcI S.I (fun _=> ?_);generalize World.drew _=V at *;refine tt 1 S.I ?_ (hy:=fun w0 hS0=>by obtain ⟨b0,-⟩:=hS0.cells; go_simp; try with_reducible rfl);refine tt 2 S.I ?_ (hy:=fun w0 hS0=>by obtain ⟨b0,-⟩:=hS0.cells; go_simp; try with_reducible rfl);refine L7 0 (fun K hK=> ?_);go_wp2_with fail;refine (MG V).mono ?_;rintro e W1 ⟨rfl,hn,hb⟩;have n0:W1.cell? ⟨V.heap.size,k.toNat,n_⟩=o_ (t_ N):=by have:=hn.2 k.toNat Zdn; rw [HK.I.2,M9.I] at this; exact this
 replace S:Hid (Px w k n m s _):=S.I.below hb;clear hb hn;refine hK.out _ _ S.I (fun _=> ?_);clear hK K
 try simp only [pt,sb,s0,s1]
 refine tt 3 S.I ?_;refine L7 4 (fun K hK=> ?_);go_wp2;refine hK.out _ _ S.I (fun _=> ?_);clear hK K n0
 try simp only [pt,sb,s0,s1]
 refine tt 5 S.I ?_;refine K3 ZcI ?_ _;obtain ⟨b0,b1,b2,b3⟩:=S.I.cells;exact H_
theorem NL (k n m:Int) (s:ByteArray) (w:w_) (h:mQ k n m s=true):
  k_ J3 108 #[a_ #[i_ j_ k,i_ j_ n,i_ j_ m,t_ s]] w fun e w'=>e=r_ (t_ (MF k n m s))∧B_ w.heap.size w w':=by
 by_cases c1:k=1∨k=2∨k=4∨k=5∨k=6∨k=11∨k=14∨k=15∨k=16
 ·exact PD k n m s w c1 (ML c1 h)
 by_cases c2:k=3∨k=7∨k=9∨k=12
 ·have h2:=MZ c2 h
  exact PB k n m s w c2 ⟨h2.1,h2.2.1⟩ h2.2.2
 by_cases c3:k=8
 ·have h2:=N0 (c3 ▸ h)
  exact Py k n m s w c3 ⟨h2.1,h2.2.1⟩ ⟨h2.2.2.1,h2.2.2.2.1⟩ h2.2.2.2.2
 by_cases c4:k=10∨k=13
 ·have h2:=NK c4 h
  exact Pz k n m s w c4 ⟨h2.1,h2.2.1⟩ h2.2.2
 ·exact PA k n m s w (by have:=OP h; omega)
end
end Go.Proofs.YtgdmbemagdbmaaaGreatDoor
