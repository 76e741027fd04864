/- What the proof leans on, part 1. -/
import Derived.Test.YtfncpmaefninjaaGreatDoorOwnV
import Derived.Test.YtfncpmaefninjaaGreatDoorProg
import Derived.Handy
import Derived.Deep.OwnRows
import Derived.BigQuiet
import Derived.Lib.ItoaNum
import Derived.Deep.RegionHeld3
import Derived.Deep.DrawnRows
import Derived.Deep.RegionLaw
import Derived.Maps.RangeWalk
import Derived.Deep.AppendLies
set_option linter.unusedVariables false
set_option maxRecDepth 100000
set_option maxHeartbeats 8000000
open Go.Proofs.Tryz
open Go renaming World->w_,Value->v_,Calls->k_,Addr->d_,TypeId->T_
open Go.Ending renaming returned->r_
open Go.IntKind renaming i64->j_
open Go.Obj renaming cells->c_
open Go.RowKit renaming Below->B_
open Go.Value renaming int->i_,slice->s_,bool->b_,string->t_,agg->a_,pointer->p_,tuple->u_
open Option renaming some->o_,none->n_
open Array renaming all_eq_true_iff_forall_mem->aeb,getD_eq_getD_getElem?->adY,getElem?_eq_getElem->Qb,getElem?_eq_some_iff->J2
open Bool renaming and_eq_true->J7,false_eq_true->J5,false_or->Qg,not_eq_true'->PR,or_eq_true->Kb
open Go renaming block_lt_of_cell->Le,bodyPost_ret->KT,cell_of_row->K5,frozen_of_row->Ko,heap_alloc_new->Kj,heap_setCell_same->K7,mem_ready->Qf,ready_mono->Qe,results_cell_row->K9,wpList_append_own_at->KD,wpOp_mono->Qd,wp_at_succ->Kd,wp_at_zero->Kc
open Go.Act renaming put_comm->Qc
open Go.AllReadyH renaming cons->KX,nil->KY
open Go.Calls renaming mono->adn
open Go.DataW.lit renaming injEq->QZ
open Go.IntKind renaming wrap_i64->K8
open Go.Proofs.Tryz renaming prog->J3,underlying2->KN
open Go.RowKit.Below renaming heap_setCell->K6,refl->Kp
open Go.World renaming cell?_of_block->J1,news_of_block->KE,size_alloc->RR
open Int renaming eq_ofNat_of_zero_le->QK
open List renaming find?_cons->LL,getElem?_cons_succ->QC,getElem?_eq_getElem->Kz,getElem?_eq_some_iff->Lj,length_cons->Lg,map_cons->Lt,mem_cons->Kt,mem_filter->L2,mem_map->Lr,mem_of_getElem?->KA,pairwise_cons->LM
open Nat renaming le_refl->Ki,le_trans->LG,lt_of_lt_of_le->Kn,succ_mul->Lh,zero_le->Ky
open Option renaming getD_some->Ka,map_eq_some_iff->Kw,map_some->J9
open Option.some renaming injEq->LF

namespace Go.Proofs.YtfncpmaefninjaaGreatDoor
section
open Go.RowKit
theorem _root_.Go.RowKit.Hid.I {p:Prop} (h:Hid p):p:=h
theorem PU {w:w_} {o:Obj} {i:Nat} (h:i < w.heap.size):(w.alloc o).heap[i]? =w.heap[i]? :=((Kp _ w).alloc (Ki _) o).block i h
def cv (n lo hi:Int):Bool:=decide (lo≤n) && decide (n≤hi)
theorem eB {n lo hi:Int} (h1:lo≤n) (h2:n≤hi):cv n lo hi=true:=by simp [cv,h1,h2]
theorem mA {n lo hi:Int} (h:n < lo):cv n lo hi=false:=by simp [cv]; omega
theorem kR {n lo hi:Int} (h:hi < n):cv n lo hi=false:=by simp [cv]; omega
theorem al {a b:Bool} (h:a=b):Ending.returned (b_ a)=r_ (b_ b):=by rw [h]
theorem ck {k:IntKind} {a b:Int} (h:a=b):Ending.returned (i_ k a)=r_ (i_ k b):=by rw [h]
def lT (w:w_) (g len:Nat) (Z:Nat→Int):Prop:=g < w.heap.size∧ ∀ j,j < len * 3→w.cell? ⟨g,j,n_⟩=o_ (i_ j_ (Z j))
theorem lT.lt {w:w_} {g len:Nat} {Z:Nat→Int} (h:lT w g len Z):g < w.heap.size:=h.1
theorem lT.cell {w:w_} {g len:Nat} {Z:Nat→Int} (h:lT w g len Z) {i:Nat} (hi:i < len * 3):w.cell? ⟨g,i,n_⟩=o_ (i_ j_ (Z i)):=h.2 i hi
theorem lT.of_block {w w':w_} {g len:Nat} {Z:Nat→Int} (h:lT w g len Z) (e:w'.heap[g]? =w.heap[g]?):lT w' g len Z:=by
 exact ZbH
theorem lT.alloc {w:w_} {g len:Nat} {Z:Nat→Int} (h:lT w g len Z) (o:Obj):lT (w.alloc o) g len Z:=h.of_block (Below.heap_alloc w o g h.1)
theorem dx (n lo hi:Int) (w:w_):
  k_ J3 27 #[i_ j_ n,i_ j_ lo,i_ j_ hi] w fun e w'=>e=r_ (b_ (cv n lo hi))∧w'=w:=by
 by_cases h1:lo≤n
 ·by_cases h2:n≤hi
  ·go_enter func27,ntmps27
   exact Zbn
  ·go_enter func27,ntmps27
   exact Za6
 ·go_enter func27,ntmps27
  exact Za7
end
section
open Go
section
variable {P : Program} {ops : Array Oper} {Q : Exit → Act → w_ → Prop} {md : Region.Mode} {S : w_ → Prop}
def Comes (P : Program) (S : w_ → Prop) (v : v_) : Result Next → Prop
  | .ok (.value u) w' => u = v ∧ S w'
  | .ok .skip w' => v = undef ∧ S w'
  | .ok (.enter f args) w' => k_ P f args w' (fun e w'' => e =r_ v ∧ S w'')
  | _ => False
def Does (P : Program) (ops : Array Oper) (S : w_ → Prop) (o : Oper) (v : v_) (a : Act) : Prop :=
  (Region.wanted o (yielded ops a.tmps) = true ∧ ∀ w, S w → Comes P S v ((execOp a.eval o).run P w)) ∨
  (Region.wanted o (yielded ops a.tmps) = false ∧ v = undef)
theorem Does.of_same {o : Oper} {v : v_} {a a' : Act} (hy : Does P ops S o v a) (he : execOp a'.eval o = execOp a.eval o)
    (hw : Region.wanted o (yielded ops a'.tmps) = Region.wanted o (yielded ops a.tmps)) : Does P ops S o v a' := by
  unfold Does at *;rw [he, hw];exact hy
theorem Does.wpOp {i : Nat} {o : Oper} {v : v_} {a : Act} (hi : ops[i]? = o_ o) (hy : Does P ops S o v a)
    {K : Act → w_ → Prop} {w : w_} (hS : S w) (h : ∀ w', S w' → K (a.put o.dst v) w') : wpOp P ops Q i K a w := by
  unfold Go.wpOp;simp only [hi];rcases hy with ⟨hw, hv⟩ | ⟨hw, rfl⟩
  · simp only [hw, if_true]
    refine .inl ?_;have hc := hv w hS;unfold Oper.wp;generalize (execOp a.eval o).run P w = r at *;cases r with
    | ok n w' =>
      cases n <;> simp only [Comes, Oper.upon] at hc ⊢
      case value u =>
        obtain ⟨rfl, GH⟩ := hc;exact h _ GH
      case skip =>
        obtain ⟨rfl, GH⟩ := hc;exact h _ GH
      case enter f args =>
        refine adn hc fun e w'' he => ?_
        obtain ⟨rfl, GH⟩ := he;exact h _ GH
    | halt x w' => exact hc.elim
  · simp only [hw, J5, if_false]
    exact h _ hS
theorem xH {j : Nat} {oi oj : Oper} {v : v_} (hj : ops[j]? = o_ oj) (hap : oi.apart ops oj = true)
    (hsi : ∀ cs b, oi.op ≠ .select cs b) (hsj : ∀ cs b, oj.op ≠ .select cs b)
    (hQ : ∀ c a w, Q (.panic c) (a.put oi.dst v) w → Q (.panic c) a w) {K : Act → w_ → Prop} {a : Act} {w : w_}
    (hy : Does P ops S oi v a) (h : wpOp P ops Q j K (a.put oi.dst v) w) :
    wpOp P ops Q j (fun a' w' => Does P ops S oi v a' ∧ K (a'.put oi.dst v) w') a w := by
  obtain ⟨h1, h2, h3⟩ := Oper.apart_spec hap;have keep : ∀ (a : Act), Does P ops S oi v a → ∀ u, Does P ops S oi v (a.put oj.dst u) := fun a hy u =>
    hy.of_same (execOp_put oi hsi a oj.dst u h3) (wanted_put oi a oj.dst u h3)
  have keepD : ∀ d, Does P ops S oi v { a with defers := d :: a.defers } := fun d => hy.of_same rfl rfl
  unfold wpOp at *;simp only [hj] at *;rw [wanted_put oj a oi.dst v h1] at h
  split
  · rename_i hw
    simp only [hw, if_true] at h;rcases h with h | ⟨hasks, hlets⟩
    case inr => exact .inr ⟨by unfold Oper.asks at *; rw [execOp_put oj hsj a oi.dst v h1] at hasks; exact hasks, hlets⟩
    refine .inl ?_;unfold Oper.wp at *;rw [execOp_put oj hsj a oi.dst v h1] at h;generalize (execOp a.eval oj).run P w = r at *;cases r with
    | ok n w' =>
      cases n <;> simp only [Oper.upon] at h ⊢
      case value u => exact ⟨keep a hy u, by rw [← Qc a v u h2]; exact h⟩
      case skip => exact ⟨keep a hy _, by rw [← Qc a v undef h2]; exact h⟩
      case defer d =>
        refine ⟨keep _ (keepD d) _, ?_⟩;rw [← Qc _ v undef h2, ← Act.put_defers];exact h
      case enter f args =>
        refine adn h fun e w'' he => ?_
        cases e with
        | returned u => exact ⟨keep a hy u, by rw [← Qc a v u h2]; exact he⟩
        | panicked c => exact hQ _ _ _ he
        | outgrown => exact he
      case row row args => exact Rows.mono h fun u w'' he => ⟨keep a hy u, by rw [← Qc a v u h2]; exact he⟩
    | halt x w' =>
      cases x <;> simp only [Oper.upon] at h ⊢
      case panic u => exact hQ _ _ _ h
  · rename_i hw
    simp only [hw] at h;exact ⟨keep a hy _, by rw [← Qc a v undef h2]; exact h⟩
def gR (P : Program) (md : Region.Mode) (ops : Array Oper) (Q : Exit → Act → w_ → Prop) (S : w_ → Prop) : Nat → Array Bool → Act → Prop
  | 0, RV, a => Region.ready md ops RV = [] ∧ ∀ w, S w → Q .normal a w
  | fuel + 1, RV, a =>
    (Region.ready md ops RV = [] → ∀ w, S w → Q .normal a w) ∧
    ∀ i ∈ Region.ready md ops RV, ∀ w, S w → wpOp P ops Q i (fun a' w' => S w' ∧ gR P md ops Q S fuel (RV.setIfInBounds i true) a') a w
theorem pW : ∀ (fuel : Nat) (RV : Array Bool) (a : Act) (w : w_), S w → gR P md ops Q S fuel RV a → wpAny P md ops Q fuel RV a w
  | 0, _, _, w, hS, h => ⟨h.1, h.2 w hS⟩
  | fuel + 1, _, _, w, hS, h => ⟨fun h0 => h.1 h0 w hS, fun i hi => Qd (fun a' w' h' => pW fuel _ a' w' h'.1 h'.2) (h.2 i hi w hS)⟩
theorem yd {i : Nat} {oi : Oper} {v : v_} (hi : ops[i]? = o_ oi) (hsel : ∀ (j : Nat) (o : Oper) cs b, ops[j]? = o_ o → o.op ≠ .select cs b)
    (hQ : ∀ c a w, Q (.panic c) (a.put oi.dst v) w → Q (.panic c) a w) :
    ∀ (fuel : Nat) (RV : Array Bool) (a : Act),
      (∀ j oj, ops[j]? = o_ oj → j ≠ i → RV.getD j true = false → (∀ e ∈ oj.after, Region.binds md e = true → e.on ≠ i) → oi.apart ops oj = true) →
      i ∈ Region.ready md ops RV → Does P ops S oi v a →
      gR P md ops Q S fuel (RV.setIfInBounds i true) (a.put oi.dst v) → gR P md ops Q S (fuel + 1) RV a := by
  intro fuel
  induction fuel with
  | zero =>
    intro RV a _ hr hy H;refine ⟨fun h => (by rw [h] at hr; cases hr), fun j hj w hS => ?_⟩;by_cases hji : j = i
    · subst hji
      exact Zb3
    · have := Qe hj hji
      rw [H.1] at this;cases this
  | succ fuel ih =>
    intro RV a hfree hr hy H;refine ⟨fun h => (by rw [h] at hr; cases hr), fun j hj w hS => ?_⟩;by_cases hji : j = i
    · subst hji
      exact Zb3
    · have h1 := H.2 j (Qe hj hji) w hS
      obtain ⟨hjun, oj, hoj, hall⟩ := Qf.1 hj;have hnot : ∀ e ∈ oj.after, Region.binds md e = true → e.on ≠ i := fun e he hb heq => by
        exact ZaC
      have h2 := xH hoj (hfree j oj hoj hji hjun hnot) (fun cs b => hsel i oi cs b hi) (fun cs b => hsel j oj cs b hoj) hQ hy h1;have hfree' : ∀ k ok, ops[k]? = o_ ok → k ≠ i → (RV.setIfInBounds j true).getD k true = false →
          (∀ e ∈ ok.after, Region.binds md e = true → e.on ≠ i) → oi.apart ops ok = true := fun k ok hk hki hun hno => by
        exact Zbp
      refine Qd (fun a' w' h3 => ⟨h3.2.1, ih (RV.setIfInBounds j true) a' hfree' (Qe hr (Ne.symm hji)) h3.1 ?_⟩) h2;rw [Array.setIfInBounds_comm _ _ hji];exact h3.2.2
theorem Fq {i : Nat} {oi : Oper} {v : v_} {fuel : Nat} {RV : Array Bool} {a : Act} (hi : ops[i]? = o_ oi)
    (hs : Region.noSelect ops = true) (hf : Region.free md ops RV i = true) (hr : (Region.ready md ops RV).contains i = true)
    (hQ : ∀ c a w, Q (.panic c) (a.put oi.dst v) w → Q (.panic c) a w) (hy : Does P ops S oi v a)
    (h : gR P md ops Q S fuel (RV.setIfInBounds i true) (a.put oi.dst v)) : gR P md ops Q S (fuel + 1) RV a :=
  yd hi (Region.noSelect_spec hs) hQ fuel RV a (Region.free_spec hi hf) (by simpa using hr) hy h
theorem IK {i : Nat} (d : Option Tmp) {oi : Oper} {v : v_} {fuel : Nat} {RV : Array Bool} {a : Act} (hi : ops[i]? = o_ oi) (hd : oi.dst = d)
    (hs : Region.noSelect ops = true) (hf : Region.free md ops RV i = true) (hr : (Region.ready md ops RV).contains i = true)
    (hQ : ∀ c a w, Q (.panic c) (a.put d v) w → Q (.panic c) a w) (hy : Does P ops S oi v a)
    (h : gR P md ops Q S fuel (RV.setIfInBounds i true) (a.put d v)) : gR P md ops Q S (fuel + 1) RV a := by
  subst hd;exact Fq hi hs hf hr hQ hy h
def Jj (md : Region.Mode) (ops : Array Oper) (RV : Array Bool) (i : Nat) (oi : Oper) (d : Option Tmp) : Bool := decide (oi.dst = d) && Region.noSelect ops && Region.free md ops RV i && (Region.ready md ops RV).contains i
theorem tm (i : Nat) (d : Option Tmp) {oi : Oper} {v : v_} {fuel : Nat} {RV : Array Bool} {a : Act} (hi : ops[i]? = o_ oi) (hc : Jj md ops RV i oi d = true)
    (hQ : ∀ c a w, Q (.panic c) (a.put d v) w → Q (.panic c) a w) (hy : Does P ops S oi v a)
    (h : gR P md ops Q S fuel (RV.setIfInBounds i true) (a.put d v)) : gR P md ops Q S (fuel + 1) RV a := by
  simp only [Jj, J7, decide_eq_true_eq] at hc;exact IK d hi hc.1.1.1 hc.1.1.2 hc.1.2 hc.2 hQ hy h
theorem pt (a : Act) (d : Tmp) (v : v_) : a.put (o_ d) v = { a with tmps := a.tmps.setIfInBounds d v } := rfl
theorem sb {α : Type} {l : List α} {i : Nat} {x : α} : l.toArray.setIfInBounds i x = (l.set i x).toArray := by simp
theorem s0 {α : Type} {l : List α} {x y : α} : (x :: l).set 0 y = y :: l := rfl
theorem s1 {α : Type} {l : List α} {x y : α} {n : Nat} : (x :: l).set (n + 1) y = x :: l.set n y := rfl
theorem bk {RV : Array Bool} {a : Act} (hr : Region.ready md ops RV = []) (h : ∀ w, S w → Q .normal a w) : ∀ fuel, gR P md ops Q S fuel RV a
  | 0 => ⟨hr, h⟩
  | _ + 1 => ⟨fun _ => h, by rw [hr]; simp⟩
theorem aT {id : Nat} {a : Act} {w : w_} (S : w_ → Prop) (hm : P.follows .mixedOrders = true) (hS : S w.drew)
    (h : gR P .any ops Q S ops.size (Array.replicate ops.size false) a) : (Code.region id ops true).wp P Q a w :=
  wp_region_any hm (pW _ _ _ _ hS h)
/-! ### A region whose last operation may turn what the others keep -/
def qe (md : Region.Mode) (ops : Array Oper) (RV : Array Bool) : Prop := ∀ (j : Nat) (o : Oper), ops[j]? = o_ o → RV.getD j false = true → ∀ e ∈ o.after, Region.binds md e = true → RV.getD e.on false = true
def tM (md : Region.Mode) (ops : Array Oper) (RV : Array Bool) : Bool :=
  (List.range ops.size).all fun j => !RV.getD j false || ((ops[j]?).map fun o => o.after.all fun e => !Region.binds md e || RV.getD e.on false).getD true
theorem yp {RV : Array Bool} (h : tM md ops RV = true) : qe md ops RV := fun j o ho hl e he hb => by
  simp only [tM, List.all_eq_true, List.mem_range] at h;have h1 := h j (J2.1 ho).1;rw [hl, ho] at h1;simp only [Bool.not_true, Qg, J9, Ka, aeb, Kb, PR] at h1;rcases h1 e he with h2 | h2
  · rw [hb] at h2; cases h2
  · exact h2
theorem qe.set {RV : Array Bool} {j : Nat} (h : qe md ops RV) (hj : j ∈ Region.ready md ops RV) : qe md ops (RV.setIfInBounds j true) := fun k o ho hl e he hb => by
  obtain ⟨_, o', ho', hall⟩ := Qf.1 hj;by_cases hjk : j = k
  · subst hjk
    rw [ho'] at ho;cases ho;exact getD_set_true (hall e he hb)
  · rw [getD_set_ne false hjk] at hl
    exact getD_set_true (h k o ho hl e he hb)
def preB (md : Region.Mode) (ops : Array Oper) : Nat → Nat → Nat → Bool
  | 0, x, i => x == i
  | n + 1, x, i => x == i || ((ops[x]?).map fun o => o.after.any fun e => Region.binds md e && preB md ops n e.on i).getD false
theorem vi {RV : Array Bool} (hc : qe md ops RV) {i : Nat} : ∀ (n x : Nat), RV.getD x false = true → preB md ops n x i = true → RV.getD i false = true
  | 0, x, hx, h => by
    have e : x = i := by simpa [preB] using h
    rw [← e];exact hx
  | n + 1, x, hx, h => by
    simp only [preB, Kb, beq_iff_eq] at h;rcases h with e | h
    · rw [← e]
      exact hx
    · cases ho : ops[x]? with
      | none => rw [ho] at h; simp at h
      | some o =>
        rw [ho] at h;simp only [J9, Ka, Array.any_eq_true'] at h;obtain ⟨e, he, h2⟩ := h;simp only [J7] at h2;exact vi hc n e.on (hc x o ho hx e he h2.1) h2.2
theorem rV {RV : Array Bool} (hc : qe md ops RV) {i L n : Nat} (hp : preB md ops n L i = true) (hne : ¬ i = L) (hi : RV.getD i true = false) : L ∉ Region.ready md ops RV := fun hL => by
  obtain ⟨_, o, ho, hall⟩ := Qf.1 hL;have hi' : ¬ RV.getD i false = true := fun h => by
    rcases Nat.lt_or_ge i RV.size with h' | h'
    · simp [h'] at h hi
      rw [h] at hi;cases hi
    · simp [Array.getElem?_eq_none h'] at h
  cases n with
  | zero => exact hne (by have e : L = i := by simpa [preB] using hp
                          exact e.symm)
  | succ n =>
    simp only [preB, Kb, beq_iff_eq] at hp;rcases hp with e | h
    · exact hne e.symm
    · rw [ho] at h
      simp only [J9, Ka, Array.any_eq_true'] at h;obtain ⟨e, he, h2⟩ := h;simp only [J7] at h2;exact hi' (vi hc n e.on (hall e he h2.1) h2.2)
def kS (P : Program) (md : Region.Mode) (ops : Array Oper) (Q : Exit → Act → w_ → Prop) (S : w_ → Prop) (L : Nat) : Nat → Array Bool → Act → Prop
  | 0, _, _ => False
  | fuel + 1, RV, a =>
    Region.ready md ops RV ≠ [] ∧
    ∀ i ∈ Region.ready md ops RV, ∀ w, S w →
      (i = L ∧ Region.ready md ops (RV.setIfInBounds L true) = [] ∧ wpOp P ops Q L (fun a' w' => Q .normal a' w') a w) ∨
      (i ≠ L ∧ wpOp P ops Q i (fun a' w' => S w' ∧ kS P md ops Q S L fuel (RV.setIfInBounds i true) a') a w)
theorem pM {L : Nat} : ∀ (fuel : Nat) (RV : Array Bool) (a : Act) (w : w_), S w → kS P md ops Q S L fuel RV a → wpAny P md ops Q fuel RV a w
  | 0, _, _, _, _, h => h.elim
  | fuel + 1, RV, a, w, hS, h => ⟨fun h0 => absurd h0 h.1, fun i hi => by
    rcases h.2 i hi w hS with ⟨rfl, h1, h2⟩ | ⟨_, h2⟩
    · exact Qd (fun a' w' h' => wpAny_done h1 h' fuel) h2
    · exact Qd (fun a' w' h' => pM fuel _ a' w' h'.1 h'.2) h2⟩
theorem yw {L i n : Nat} {oi : Oper} {v : v_} (hi : ops[i]? = o_ oi) (hsel : ∀ (j : Nat) (o : Oper) cs b, ops[j]? = o_ o → o.op ≠ .select cs b)
    (hQ : ∀ c a w, Q (.panic c) (a.put oi.dst v) w → Q (.panic c) a w) (hp : preB md ops n L i = true) (hne : ¬ i = L) :
    ∀ (fuel : Nat) (RV : Array Bool) (a : Act), qe md ops RV →
      (∀ j oj, ops[j]? = o_ oj → j ≠ i → RV.getD j true = false → (∀ e ∈ oj.after, Region.binds md e = true → e.on ≠ i) → oi.apart ops oj = true) →
      i ∈ Region.ready md ops RV → Does P ops S oi v a →
      kS P md ops Q S L fuel (RV.setIfInBounds i true) (a.put oi.dst v) → kS P md ops Q S L (fuel + 1) RV a := by
  intro fuel
  induction fuel with
  | zero => intro RV a _ _ _ _ H; exact H.elim
  | succ fuel ih =>
    intro RV a hcl hfree hr hy H;refine ⟨fun h => (by rw [h] at hr; cases hr), fun j hj w hS => ?_⟩;have hjL : ¬ j = L := fun e => by
      subst e;exact rV hcl hp hne (Qf.1 hr).1 hj
    refine .inr ⟨hjL, ?_⟩;by_cases hji : j = i
    · subst hji
      exact Zb3
    · have h1 := (H.2 j (Qe hj hji) w hS).resolve_left (fun h => hjL h.1)
      obtain ⟨hjun, oj, hoj, hall⟩ := Qf.1 hj;have hnot : ∀ e ∈ oj.after, Region.binds md e = true → e.on ≠ i := fun e he hb heq => by
        exact ZaC
      have h2 := xH hoj (hfree j oj hoj hji hjun hnot) (fun cs b => hsel i oi cs b hi) (fun cs b => hsel j oj cs b hoj) hQ hy h1.2;have hfree' : ∀ k ok, ops[k]? = o_ ok → k ≠ i → (RV.setIfInBounds j true).getD k true = false →
          (∀ e ∈ ok.after, Region.binds md e = true → e.on ≠ i) → oi.apart ops ok = true := fun k ok hk hki hun hno => by
        exact Zbp
      refine Qd (fun a' w' h3 => ⟨h3.2.1, ih (RV.setIfInBounds j true) a' (hcl.set hj) hfree' (Qe hr (Ne.symm hji)) h3.1 ?_⟩) h2;rw [Array.setIfInBounds_comm _ _ hji];exact h3.2.2
theorem I1 {L i : Nat} (n : Nat) (d : Option Tmp) {oi : Oper} {v : v_} {fuel : Nat} {RV : Array Bool} {a : Act} (hi : ops[i]? = o_ oi) (hd : oi.dst = d)
    (hs : Region.noSelect ops = true) (hf : Region.free md ops RV i = true) (hr : (Region.ready md ops RV).contains i = true) (hp : (preB md ops n L i && (i != L) && tM md ops RV) = true)
    (hQ : ∀ c a w, Q (.panic c) (a.put d v) w → Q (.panic c) a w) (hy : Does P ops S oi v a)
    (h : kS P md ops Q S L fuel (RV.setIfInBounds i true) (a.put d v)) : kS P md ops Q S L (fuel + 1) RV a := by
  subst hd;simp only [J7, bne_iff_ne, ne_eq] at hp;exact yw hi (Region.noSelect_spec hs) hQ hp.1.1 hp.1.2 fuel RV a (yp hp.2) (Region.free_spec hi hf) (by simpa using hr) hy h
def lsB (md : Region.Mode) (ops : Array Oper) (RV : Array Bool) (i L n : Nat) (oi : Oper) (d : Option Tmp) : Bool := Jj md ops RV i oi d && (preB md ops n L i && (i != L) && tM md ops RV)
theorem ls {L : Nat} (i n : Nat) (d : Option Tmp) {oi : Oper} {v : v_} {fuel : Nat} {RV : Array Bool} {a : Act} (hi : ops[i]? = o_ oi) (hc : lsB md ops RV i L n oi d = true)
    (hQ : ∀ c a w, Q (.panic c) (a.put d v) w → Q (.panic c) a w) (hy : Does P ops S oi v a)
    (h : kS P md ops Q S L fuel (RV.setIfInBounds i true) (a.put d v)) : kS P md ops Q S L (fuel + 1) RV a := by
  simp only [lsB, Jj, J7, decide_eq_true_eq] at hc;exact I1 n d hi hc.1.1.1.1 hc.1.1.1.2 hc.1.1.2 hc.1.2 (by simp only [J7]; exact hc.2) hQ hy h
theorem fL {L : Nat} {oL : Oper} {fuel : Nat} {RV : Array Bool} {a : Act} (hi : ops[L]? = o_ oL) (hr : Region.ready md ops RV = [L]) (hr' : Region.ready md ops (RV.setIfInBounds L true) = [])
    (hw : Region.wanted oL (yielded ops a.tmps) = true) (h : ∀ w, S w → oL.wp P a w (fun a' w' => Q .normal a' w') Q) : kS P md ops Q S L (fuel + 1) RV a := by
  refine ⟨by rw [hr]; simp, fun i hi' w hS => ?_⟩;rw [hr] at hi';have e : i = L := by simpa using hi'
  refine .inl ⟨e, hr', ?_⟩;unfold wpOp;simp only [hi, hw, if_true];exact .inl (h w hS)
theorem eD {id : Nat} {a : Act} {w : w_} (S : w_ → Prop) (L : Nat) (hm : P.follows .mixedOrders = true) (hS : S w.drew)
    (h : kS P .any ops Q S L ops.size (Array.replicate ops.size false) a) : (Code.region id ops true).wp P Q a w :=
  wp_region_any hm (pM _ _ _ _ hS h)
theorem np {o : Oper} {a : Act} (h : Region.wanted o (yielded ops a.tmps) = false) : Does P ops S o undef a := .inr ⟨h, rfl⟩
theorem bV {o : Oper} {v : v_} {a : Act} (hw : Region.wanted o (yielded ops a.tmps) = true) (h : ∀ w, S w → (execOp a.eval o).run P w = .ok (.value v) w) : Does P ops S o v a :=
  .inl ⟨hw, fun w hS => by rw [h w hS]; exact ⟨rfl, hS⟩⟩
theorem iZ {o : Oper} {v : v_} {a : Act} {f : FuncId} {args : Array v_} (hw : Region.wanted o (yielded ops a.tmps) = true) (h : ∀ w, S w → (execOp a.eval o).run P w = .ok (.enter f args) w)
    (hc : ∀ w, S w → k_ P f args w (fun e w' => e =r_ v ∧ S w')) : Does P ops S o v a :=
  .inl ⟨hw, fun w hS => by rw [h w hS]; exact hc w hS⟩
end
end
section
open Go.RowKit
def gH (c:UInt8):Bool:=decide (32≤(c.toNat:Int)) && decide ((c.toNat:Int)≤126) && !decide ((c.toNat:Int)=59)
def bw (s:ByteArray):Bool:=decide (s.size≤20) && s.data.toList.all gH
theorem Et (s:ByteArray) (k:Nat) (h:k < s.size):s.data.toList.take (k+1)=s.data.toList.take k ++ [s[k]] :=by
 rw [List.take_succ_eq_append_getElem (by simpa using h)]; rfl
theorem Bv {s:ByteArray} {k:Nat} (h:k < s.size) (ha:(s.data.toList.take k).all gH=true) (hb:gH s[k] =true):(s.data.toList.take (k+1)).all gH=true:=by
 rw [Et s k h,List.all_append,ha]; simp [hb]
theorem D7 {s:ByteArray} {k:Nat} (h:k < s.size) (hb:gH s[k] =false):s.data.toList.all gH=false:=by
 rw [List.all_eq_false];exact ⟨s[k], by rw [show s[k] = s.data.toList[k]'(by simpa using h) from rfl]; exact List.getElem_mem _, by simp [hb]⟩
theorem BA (s:ByteArray) {k:Nat} (h:s.size≤k):s.data.toList.take k=s.data.toList:=List.take_of_length_le (by simpa using h)
theorem xo {c:UInt8} (h:(c.toNat:Int) < 32):gH c=false:=by simp [gH]; omega
theorem uO {c:UInt8} (h:126 < (c.toNat:Int)):gH c=false:=by simp [gH]; omega
theorem uj {c:UInt8} (h:(c.toNat:Int)=59):gH c=false:=by simp [gH]; omega
theorem xR {c:UInt8} (h1: ¬ (c.toNat:Int) < 32) (h2: ¬ 126 < (c.toNat:Int)) (h3: ¬ (c.toNat:Int)=59):gH c=true:=by simp [gH]; omega
theorem jC (s:ByteArray) (w:w_) (hs:s.size≤1048576):
  k_ J3 82 #[t_ s] w fun e w'=>e=r_ (b_ (bw s))∧w'=w:=by
 go_enter func82,ntmps82
 go_wp2
 go_loop [3] (fun i=> ∃ k:Nat,k≤s.size∧i=i_ j_ k∧(s.data.toList.take k).all gH=true) (fun i=>s.size - (intOf i).toNat)
 case atStart=>exact ⟨0,Ky _,rfl,rfl⟩
 case round=>
  obtain ⟨k,hk,rfl,hall⟩:=hrel;have HA:Hid ((s.data.toList.take k).all gH=true):=hall;clear hall;by_cases hlt:k < s.size
  ·exact ro
  ·have HA':Hid (s.data.toList.all gH=true):=by have:=HA.I; rwa [BA s (by omega)] at this
   go_wp2;go_ret;exact ⟨al (by rw [Bool.eq_iff_iff]; simp [bw,HA'.I]; omega),rfl⟩
theorem iM (s:ByteArray) (w:w_) (hs:s.size≤1048576):
  k_ J3 238 #[t_ s] w fun e w'=>e=r_ (b_ (bw s))∧w'=w:=by
 by_cases hl:20 < s.size
 ·have hl':(20:Int) < (s.size:Int):=by omega
  go_enter func238,ntmps238
  go_wp2;go_ret;exact ⟨al (by simp [bw]; intro h; omega),rfl⟩
 ·have hl': ¬ (20:Int) < (s.size:Int):=by omega
  go_enter func238,ntmps238
  go_wp2
  go_loop [9] (fun i=> ∃ k:Nat,k≤s.size∧i=i_ j_ k∧(s.data.toList.take k).all gH=true) (fun i=>s.size - (intOf i).toNat)
  case atStart=>exact ⟨0,Ky _,rfl,rfl⟩
  case round=>
   obtain ⟨k,hk,rfl,hall⟩:=hrel;have HA:Hid ((s.data.toList.take k).all gH=true):=hall;clear hall;by_cases hlt:k < s.size
   ·exact ro
   ·have HA':Hid (s.data.toList.all gH=true):=by have:=HA.I; rwa [BA s (by omega)] at this
    have hd:decide (s.size≤20)=true:=by simp; omega
    go_wp2;go_ret;exact ⟨al (by simp only [bw,HA'.I,hd]; rfl),rfl⟩
def xe (K N M:Nat→Int) (S:Nat→ByteArray) (j:Nat):v_:=if j % 4=0 then i_ j_ (K (j / 4)) else if j % 4=1 then i_ j_ (N (j / 4)) else if j % 4=2 then i_ j_ (M (j / 4)) else t_ (S (j / 4))
theorem opV_0 (K N M:Nat→Int) (S:Nat→ByteArray) (i:Nat):xe K N M S (i * 4)=i_ j_ (K i):=by
 have e:i * 4 % 4=0:=by omega
 have d:i * 4 / 4=i:=by omega
 simp [xe,d]
theorem opV_1 (K N M:Nat→Int) (S:Nat→ByteArray) (i:Nat):xe K N M S (i * 4+1)=i_ j_ (N i):=by
 have e:(i * 4+1) % 4=1:=by omega
 have d:(i * 4+1) / 4=i:=by omega
 simp [xe,e,d]
theorem opV_2 (K N M:Nat→Int) (S:Nat→ByteArray) (i:Nat):xe K N M S (i * 4+2)=i_ j_ (M i):=by
 have e:(i * 4+2) % 4=2:=by omega
 have d:(i * 4+2) / 4=i:=by omega
 simp [xe,e,d]
theorem opV_3 (K N M:Nat→Int) (S:Nat→ByteArray) (i:Nat):xe K N M S (i * 4+3)=t_ (S i):=by
 have e:(i * 4+3) % 4=3:=by omega
 have d:(i * 4+3) / 4=i:=by omega
 simp [xe,e,d]
end
section
open Go
section
variable {P:Program} {md:Region.Mode} {ops:Array Oper} {Q:Exit→Act→w_→Prop} {S:w_→Prop}
theorem ty {oi:Oper} {v:v_} {fuel:Nat} {RV:Array Bool} {a:Act} (d:Option Tmp) (hi:ops[ops.size - (fuel+1)]? =o_ oi) (_hd:oi.dst=d) (hc:Jj md ops RV (ops.size - (fuel+1)) oi d=true)
  (hQ: ∀ c a w,Q (.panic c) (a.put d v) w→Q (.panic c) a w) (hy:Does P ops S oi v a)
  (h:gR P md ops Q S fuel (RV.setIfInBounds (ops.size - (fuel+1)) true) (a.put d v)):gR P md ops Q S (fuel+1) RV a:=tm (ops.size - (fuel+1)) d hi hc hQ hy h
theorem ly {L:Nat} (n:Nat) {oi:Oper} {v:v_} {fuel:Nat} {RV:Array Bool} {a:Act} (d:Option Tmp) (hi:ops[ops.size - (fuel+1)]? =o_ oi) (_hd:oi.dst=d) (hc:lsB md ops RV (ops.size - (fuel+1)) L n oi d=true)
  (hQ: ∀ c a w,Q (.panic c) (a.put d v) w→Q (.panic c) a w) (hy:Does P ops S oi v a)
  (h:kS P md ops Q S L fuel (RV.setIfInBounds (ops.size - (fuel+1)) true) (a.put d v)):kS P md ops Q S L (fuel+1) RV a:=ls (ops.size - (fuel+1)) n d hi hc hQ hy h
theorem yl {oi:Oper} {v:v_} {fuel:Nat} {RV:Array Bool} {a:Act} {d:Tmp} (hy: ∀ w,S w→(execOp a.eval oi).run P w= .ok (.value v) w)
  (h:gR P md ops Q S fuel (RV.setIfInBounds (ops.size - (fuel+1)) true) (a.put (o_ d) v)) (hi:ops[ops.size - (fuel+1)]? =o_ oi:=by rfl) (_hd:oi.dst=o_ d:=by rfl) (hc:Jj md ops RV (ops.size - (fuel+1)) oi (o_ d)=true:=by kernel_rfl)
  (hQ: ∀ c a w,Q (.panic c) (a.put (o_ d) v) w→Q (.panic c) a w:=by exact fun _ _ _ h=>h) (hw:Region.wanted oi (yielded ops a.tmps)=true:=by kernel_rfl):gR P md ops Q S (fuel+1) RV a:=tm (ops.size - (fuel+1)) (o_ d) hi hc hQ (bV hw hy) h
theorem PI {oi:Oper} {v:v_} {fuel:Nat} {RV:Array Bool} {a a':Act} {d:Tmp} (h:gR P md ops Q S fuel (RV.setIfInBounds (ops.size - (fuel+1)) true) a')
  (hi:ops[ops.size - (fuel+1)]? =o_ oi:=by rfl) (hd:oi.dst=o_ d:=by rfl) (hy: ∀ w,S w→(execOp a.eval oi).run P w= .ok (.value v) w:=by intro w0 hS0; go_simp; try with_reducible rfl) (hc:Jj md ops RV (ops.size - (fuel+1)) oi (o_ d)=true:=by kernel_rfl)
  (hQ: ∀ c a w,Q (.panic c) (a.put (o_ d) v) w→Q (.panic c) a w:=by exact fun _ _ _ h=>h) (hw:Region.wanted oi (yielded ops a.tmps)=true:=by kernel_rfl) (ha:a.put (o_ d) v=a':=by simp only [pt,sb,s0,s1]; rfl):gR P md ops Q S (fuel+1) RV a:=
 yl hy ZdE hi hd hc hQ hw
theorem agj {oi:Oper} {v:v_} {fuel:Nat} {RV:Array Bool} {a a':Act} {d:Tmp} (h:gR P md ops Q S fuel (RV.setIfInBounds (ops.size - (fuel+1)) true) a')
  (hi:ops[ops.size - (fuel+1)]? =o_ oi:=by rfl) (hd:oi.dst=o_ d:=by rfl) (hy: ∀ w,S w→(execOp a.eval oi).run P w= .ok (.value v) w:=by intro w0 hS0; (first | subst hS0 | obtain ⟨⟨q0,q1,q2,q3,q4,q5,q6,q7,q8,q9,kY,kV,lB,lz,Ch⟩,hH⟩:=hS0 | obtain ⟨⟨q0,q1,q2,q3,q4,q5,q6,q7⟩,hH⟩:=hS0 | obtain ⟨⟨q0,q1,q2,q3,q4,q5⟩,hH⟩:=hS0 | obtain ⟨⟨q0,q1,q2,q3,q4⟩,hH⟩:=hS0); go_simp; try with_reducible rfl) (hc:Jj md ops RV (ops.size - (fuel+1)) oi (o_ d)=true:=by kernel_rfl)
  (hQ: ∀ c a w,Q (.panic c) (a.put (o_ d) v) w→Q (.panic c) a w:=by exact fun _ _ _ h=>h) (hw:Region.wanted oi (yielded ops a.tmps)=true:=by kernel_rfl) (ha:a.put (o_ d) v=a':=by simp only [pt,sb,s0,s1]; rfl):gR P md ops Q S (fuel+1) RV a:=
 yl hy ZdE hi hd hc hQ hw
theorem nl {oi:Oper} {fuel:Nat} {RV:Array Bool} {a:Act} {d:Tmp}
  (h:gR P md ops Q S fuel (RV.setIfInBounds (ops.size - (fuel+1)) true) (a.put (o_ d) undef)) (hi:ops[ops.size - (fuel+1)]? =o_ oi:=by rfl) (_hd:oi.dst=o_ d:=by rfl) (hc:Jj md ops RV (ops.size - (fuel+1)) oi (o_ d)=true:=by kernel_rfl)
  (hQ: ∀ c a w,Q (.panic c) (a.put (o_ d) undef) w→Q (.panic c) a w:=by exact fun _ _ _ h=>h) (hw:Region.wanted oi (yielded ops a.tmps)=false:=by kernel_rfl):gR P md ops Q S (fuel+1) RV a:=tm (ops.size - (fuel+1)) (o_ d) hi hc hQ (np hw) h
theorem cl (v:v_) (f:FuncId) (args:Array v_) {oi:Oper} {fuel:Nat} {RV:Array Bool} {a:Act} {d:Tmp} (hy: ∀ w,S w→(execOp a.eval oi).run P w= .ok (.enter f args) w) (hf: ∀ w,S w→k_ P f args w (fun e w'=>e=r_ v∧S w'))
  (h:gR P md ops Q S fuel (RV.setIfInBounds (ops.size - (fuel+1)) true) (a.put (o_ d) v)) (hi:ops[ops.size - (fuel+1)]? =o_ oi:=by rfl) (_hd:oi.dst=o_ d:=by rfl) (hc:Jj md ops RV (ops.size - (fuel+1)) oi (o_ d)=true:=by kernel_rfl)
  (hQ: ∀ c a w,Q (.panic c) (a.put (o_ d) v) w→Q (.panic c) a w:=by exact fun _ _ _ h=>h) (hw:Region.wanted oi (yielded ops a.tmps)=true:=by kernel_rfl):gR P md ops Q S (fuel+1) RV a:=tm (ops.size - (fuel+1)) (o_ d) hi hc hQ (iZ hw hy hf) h
end
end
section
open Go.RowKit


end
section
open Go
section
variable {P:Program} {ops:Array Oper} {Q:Exit→Act→w_→Prop} {md:Region.Mode} {S:w_→Prop}
def zK (l:Array Bool):Nat:=l.toList.count false
theorem cX {l:Array Bool} {i:Nat} (h:i∈Region.ready md ops l):l[i]? =o_ false:=by
 simp only [Region.ready,L2,J7,PR] at h;have h1:=h.2.1;rw [adY] at h1;cases h2:l[i]? with
 | none=>rw [h2] at h1; simp at h1
 | some b=>rw [h2] at h1; simp at h1; rw [h1]
def D8 (md:Region.Mode) (ops:Array Oper) (i:Nat):List Nat:=((ops[i]?).map fun o=>(o.after.toList.filter fun e=>Region.binds md e).map fun e=>e.on).getD []
theorem hF {l:Array Bool} {i:Nat} (ns:List Nat) (h:i∈Region.ready md ops l) (hn:D8 md ops i=ns): ∀ j∈ns,l[j]? =o_ true:=fun j hj=>by
 simp only [Region.ready,L2,J7] at h;have h1:=h.2.2;subst hn;unfold D8 at hj;cases ho:ops[i]? with
 | none=>rw [ho] at hj; simp at hj
 | some o=>
  rw [ho] at hj h1;simp only [J9,Ka,Lr,L2] at hj h1;obtain ⟨e,⟨he,hb⟩,rfl⟩:=hj;rw [aeb] at h1;have h2:=h1 e (by simpa using he);simp only [hb,Bool.not_true,Qg,adY] at h2;cases h3:l[e.on]? with
  | none=>rw [h3] at h2; simp at h2
  | some b=>rw [h3] at h2; simp at h2; rw [h2]
theorem jW {l:Array Bool} {i:Nat} (ns:List Nat) (hi:decide (i < ops.size)=true) (hn:D8 md ops i=ns) (hf:l[i]? =o_ false) (hd: ∀ j∈ns,l[j]? =o_ true):i∈Region.ready md ops l:=by
 have hi':=of_decide_eq_true hi;simp only [Region.ready,L2,List.mem_range,J7,PR,adY,hf,Ka,true_and];refine ⟨hi',?_⟩;subst hn;rw [Qb hi'] at *;simp only [D8,Qb hi',J9,Ka] at hd ⊢;rw [aeb];intro e he;cases hb:Region.binds md e with
 | false=>simp
 | true=>
  have:=hd e.on (Lr.2 ⟨e,L2.2 ⟨by simpa using he,hb⟩,rfl⟩)
  simp [this]
theorem count_set: ∀ {q:List Bool} {i:Nat},q[i]? =o_ false→(q.set i true).count false+1=q.count false
 | [],_,h=>by simp at h
 | b :: r,0,h=>by
  simp only [List.getElem?_cons_zero,LF] at h;subst h;simp
 | b :: r,i+1,h=>by
  simp only [QC] at h
  have:=count_set h
  simp only [List.set_cons_succ,List.count_cons];omega
theorem vr {l:Array Bool} {i:Nat} (h:l[i]? =o_ false):zK (l.setIfInBounds i true)+1=zK l:=by
 unfold zK;rw [Array.toList_setIfInBounds];exact count_set (by rw [Array.getElem?_toList]; exact h)
theorem tk (i:Nat) {oi:Oper} {v:v_} {fuel:Nat} {RV:Array Bool} {a:Act} {w:w_} {d:Tmp} (hy: ∀ w,S w→(execOp a.eval oi).run P w= .ok (.value v) w) (hS:S w)
  (h:wpAnyH P md ops Q S fuel (RV.setIfInBounds i true) (a.put (o_ d) v) w) (hi:ops[i]? =o_ oi:=by rfl) (hd:oi.dst=o_ d:=by rfl) (h1:Region.noSelect ops=true:=by kernel_rfl) (h2:Region.free md ops RV i=true:=by kernel_rfl) (h3:(Region.ready md ops RV).contains i=true:=by kernel_rfl)
  (hQ: ∀ c a w,Q (.panic c) (a.put (o_ d) v) w→Q (.panic c) a w:=by exact fun _ _ _ h=>h) (hw:Region.wanted oi (yielded ops a.tmps)=true:=by kernel_rfl):wpAnyH P md ops Q S (fuel+1) RV a w:=by
 rw [← hd] at h hQ;exact wpAnyH_take (i:=i) hi h1 h2 h3 hQ (.inl ⟨hw,hy⟩) hS h
theorem tt (i:Nat) {oi:Oper} {v:v_} {fuel:Nat} {RV:Array Bool} {a a':Act} {w:w_} {d:Tmp} (hS:S w) (h:wpAnyH P md ops Q S fuel (RV.setIfInBounds i true) a' w) (hi:ops[i]? =o_ oi:=by rfl) (hd:oi.dst=o_ d:=by rfl)
  (hy: ∀ w,S w→(execOp a.eval oi).run P w= .ok (.value v) w:=by intro w0 hS0; go_simp; try with_reducible rfl) (h1:Region.noSelect ops=true:=by kernel_rfl) (h2:Region.free md ops RV i=true:=by kernel_rfl) (h3:(Region.ready md ops RV).contains i=true:=by kernel_rfl)
  (hQ: ∀ c a w,Q (.panic c) (a.put (o_ d) v) w→Q (.panic c) a w:=by exact fun _ _ _ h=>h) (hw:Region.wanted oi (yielded ops a.tmps)=true:=by kernel_rfl) (ha:a.put (o_ d) v=a':=by simp only [pt,sb,s0,s1]; rfl):wpAnyH P md ops Q S (fuel+1) RV a w:=
 tk i hy hS ZdE hi hd h1 h2 h3 hQ hw
theorem afJ (i:Nat) {oi:Oper} {v:v_} {fuel:Nat} {RV:Array Bool} {a a':Act} {w:w_} {d:Tmp} (hS:S w) (h:wpAnyH P md ops Q S fuel (RV.setIfInBounds i true) a' w) (hi:ops[i]? =o_ oi:=by rfl) (hd:oi.dst=o_ d:=by rfl)
  (hy: ∀ w,S w→(execOp a.eval oi).run P w= .ok (.value v) w:=by intro w0 hS0; (try have x1:=agb hS0); (try have x1:=agb hS0.1); (try have x2:=ia hS0.2); (try have x2:=gE hS0.2); (try have x2:=bo hS0); (try have x2:=bo hS0.1); go_simp; try with_reducible rfl) (h1:Region.noSelect ops=true:=by kernel_rfl) (h2:Region.free md ops RV i=true:=by kernel_rfl) (h3:(Region.ready md ops RV).contains i=true:=by kernel_rfl)
  (hQ: ∀ c a w,Q (.panic c) (a.put (o_ d) v) w→Q (.panic c) a w:=by exact fun _ _ _ h=>h) (hw:Region.wanted oi (yielded ops a.tmps)=true:=by kernel_rfl) (ha:a.put (o_ d) v=a':=by simp only [pt,sb,s0,s1]; rfl):wpAnyH P md ops Q S (fuel+1) RV a w:=
 tk i hy hS ZdE hi hd h1 h2 h3 hQ hw
theorem cellAt {w:w_} {X i:Nat} {cs:Array v_} {T:T_} {v:v_} (h:w.heap[X]? =o_ (c_ cs T)) (hv:cs[i]? =o_ v):w.cell? ⟨X,i,n_⟩=o_ v:=by simp [World.cell?,h,hv]
theorem agi (i:Nat) {oi:Oper} {v:v_} {fuel:Nat} {RV:Array Bool} {a a':Act} {w:w_} {d:Tmp} (hS:S w) (h:wpAnyH P md ops Q S fuel (RV.setIfInBounds i true) a' w) (hi:ops[i]? =o_ oi:=by rfl) (hd:oi.dst=o_ d:=by rfl)
  (hy: ∀ w,S w→(execOp a.eval oi).run P w= .ok (.value v) w:=by intro w0 hS0; (first | (have q0:=hS0.1.cells.2.2.2.2.2.2.2; rw [HG.I] at q0) | (have q0:=hS0.1.cells.2.2.2.2.2.2.1; rw [HG.I] at q0)); (try (have q5:=hS0.1.cells.2.2.1; rw [ud.I] at q5; have q7:=hS0.2)); (try have q3:=hS0.2.1.cells.2.2.2); (first | have q4:=cellAt (i:=4) hS0.2.2 rfl | have q4:=cellAt (i:=2) hS0.2.2 rfl | have q4:=cellAt (i:=4) hS0.2 rfl | have q4:=cellAt (i:=2) hS0.2 rfl | skip); (try simp only at q3); go_simp; try with_reducible rfl) (h1:Region.noSelect ops=true:=by kernel_rfl) (h2:Region.free md ops RV i=true:=by kernel_rfl) (h3:(Region.ready md ops RV).contains i=true:=by kernel_rfl)
  (hQ: ∀ c a w,Q (.panic c) (a.put (o_ d) v) w→Q (.panic c) a w:=by exact fun _ _ _ h=>h) (hw:Region.wanted oi (yielded ops a.tmps)=true:=by kernel_rfl) (ha:a.put (o_ d) v=a':=by simp only [pt,sb,s0,s1]; rfl):wpAnyH P md ops Q S (fuel+1) RV a w:=
 tk i hy hS ZdE hi hd h1 h2 h3 hQ hw
theorem L7 (i:Nat) {o:Oper} {fuel:Nat} {RV:Array Bool} {a:Act} {w:w_} (h: ∀ K':Act→w_→Prop,Shut (∀ a w,S w→(S w→wpAnyH P md ops Q S fuel (RV.setIfInBounds i true) a w)→K' a w)→Oper.wp P o a w K' Q)
  (hr:Region.ready md ops RV= [i] :=by kernel_rfl) (ho:ops.toList[i]? =o_ o:=by rfl) (hw:Region.wanted o (yielded ops a.tmps)=true:=by kernel_rfl):wpAnyH P md ops Q S (fuel+1) RV a w:=
 wpAnyH_ready hr (by simp) (KX (by rw [← ho]; simp) (fun K' hK=>by rw [if_pos hw]; exact h K' hK) KY)
theorem ln {i:Nat} {o:Oper} {K:Act→w_→Prop} {a:Act} {w:w_} (ho:ops[i]? =o_ o) (hw:Region.wanted o (yielded ops a.tmps)=true)
  (h: ∀ K':Act→w_→Prop,Shut (∀ a w,K a w→K' a w)→Oper.wp P o a w K' Q):wpOp P ops Q i K a w:=
 wpOp_step ho fun K' hK=>by
  rw [if_pos hw];exact h K' hK
theorem wild (Inv:Array Bool→Act→w_→Prop) (hS: ∀ l a w,Inv l a w→S w) (hstep: ∀ l a w,Inv l a w→ ∀ i∈Region.ready md ops l,wpOp P ops Q i (Inv (l.setIfInBounds i true)) a w)
  (hend: ∀ l a w,Inv l a w→Region.ready md ops l= [] →Q .normal a w): ∀ (fuel:Nat) (l:Array Bool) (a:Act) (w:w_),Inv l a w→zK l≤fuel→wpAnyH P md ops Q S fuel l a w
 | 0,l,a,w,h,hu=>by
  have h0:Region.ready md ops l= [] :=List.eq_nil_iff_forall_not_mem.2 fun i hi=>by
   have:=vr (cX hi)
   omega
  exact ⟨h0,hend _ _ _ h h0⟩
 | fuel+1,l,a,w,h,hu=>⟨fun h0=>hend _ _ _ h h0,fun i hi=>Qd (fun a' w' h'=>⟨hS _ _ _ h',wild Inv hS hstep hend fuel _ a' w' h' (by have:=vr (cX hi); omega)⟩) (hstep _ _ _ h i hi)⟩
end
theorem bL {P:Program} {fn:Func} {p u:Tmp} {ty:TypeId} (h:fn.results= #[.cell p ty,.tmp u]) (tmps:Array Value) (w:World) (g:Nat) (t:TypeId) (cs:Array Value) (fr:Nat × Nat) (d:TypeDesc)
  (hp:tmps.getD p undef= .pointer (some ⟨g,0,none⟩)) (hg:w.heap[g]? =some (.cells cs t fr))
  (hu:P.underlying ty=some d) (hd:(match d with | .struct _ | .array _ _=>true | _=>false)=true) (hi:(P.info? ty).map (·.size)=some cs.size):
  (results fn tmps).run P w= .ok (.tuple #[.agg cs,tmps.getD u undef]) w:=by
 rw [results_cell_tmp h,hp];simp [asAddr,run_loadVar_row w g t ty cs fr d hg hu hd hi]
end
section
open Go.RowKit
structure gG (r:Nat) (w w':w_):Prop where
 os:w'.os=w.os
 tape:w'.tape=w.tape
 output:w'.output=w.output
 size:w.heap.size≤w'.heap.size
 block: ∀ k,k < w.heap.size→k≠r→w'.heap[k]? =w.heap[k]?
theorem gG.refl (r:Nat) (w:w_):gG r w w:=⟨rfl,rfl,rfl,Ki _,fun _ _ _=>rfl⟩
theorem gG.trans {r:Nat} {a b c:w_} (h:gG r a b) (k:gG r b c):gG r a c:=
 ⟨k.os.trans h.os,k.tape.trans h.tape,k.output.trans h.output,LG h.size k.size,fun i hi hr=>(k.block i (Kn hi h.size) hr).trans (h.block i hi hr)⟩
theorem gG.drew {r:Nat} {a w:w_} (h:gG r a w):gG r a w.drew:=⟨h.os,h.tape,h.output,h.size,h.block⟩
theorem gG.setCell {r:Nat} {a w:w_} (h:gG r a w) (i:Nat) (v:v_):gG r a (w.setCell ⟨r,i,n_⟩ v):=
 h.trans ⟨rfl,rfl,rfl,by simp,fun k _ hr=>K6 _ _ _ _ hr⟩
theorem gG.dI {r:Nat} {w w':w_} (h:B_ w.heap.size w w'):gG r w w':=⟨h.os,h.tape,h.output,h.size,fun k hk _=>h.block k hk⟩
theorem gG.below {r B:Nat} {w w':w_} (h:gG r w w') (hr:B≤r) (hB:B≤w.heap.size):B_ B w w':=⟨h.os,h.tape,h.output,h.size,fun k hk=>h.block k (by omega) (by omega)⟩
theorem gG.alloc {r:Nat} {a w:w_} (h:gG r a w) (o:Obj):gG r a (w.alloc o):=h.trans (gG.dI ((Kp _ _).alloc (Ki _) _))
theorem gG.cell {r:Nat} {w w':w_} (h:gG r w w') {p:d_} (hp:p.block < w.heap.size) (hr:p.block≠r):w'.cell? p=w.cell? p:=J1 (w:=w) (h.block p.block hp hr)
def Buf (w:w_) (r:Nat) (a:Option d_) (len:Nat):Prop:=len=0∨ ∃ b off,a=o_ ⟨b,off,n_⟩∧b≠r∧ ∀ i,i < len→ ∃ v:Int,w.cell? ⟨b,off+i,n_⟩=o_ (i_ .u8 v)∧0≤v∧v≤255
def Rd (r:Nat) (a:Option d_) (len cap:Nat) (w:w_):Prop:=(∃ p:Nat,p≤len∧w.heap[r]? =o_ (c_ #[s_ a len cap,i_ j_ p] 103))∧Buf w r a len
theorem Buf.but {w w':w_} {r:Nat} {a:Option d_} {len:Nat} (h:Buf w r a len) (hb:gG r w w'):Buf w' r a len:=by
 rcases h with h | ⟨b,off,e,hr,hc⟩
 ·exact .inl h
 ·refine .inr ⟨b,off,e,hr,fun i hi=> ?_⟩
  obtain ⟨v,hv,hv'⟩:=hc i hi;exact ⟨v,(hb.cell (p:=⟨b,off+i,n_⟩) (Le hv) hr).trans hv,hv'⟩
theorem Rd.lt {r:Nat} {a:Option d_} {len cap:Nat} {w:w_} (h:Rd r a len cap w):r < w.heap.size:=by
 obtain ⟨⟨p,_,hp⟩,_⟩:=h;exact (J2.1 hp).1
theorem Rd.below {r:Nat} {a:Option d_} {len cap:Nat} {w w':w_} (h:Rd r a len cap w) (hb:B_ w.heap.size w w'):Rd r a len cap w':=by
 have hl:=h.lt;obtain ⟨⟨p,h1,hp⟩,hbuf⟩:=h;exact ⟨⟨p,h1,(hb.block _ hl).trans hp⟩,hbuf.but (gG.dI hb)⟩
theorem A9 (r:Nat) (a:Option d_) (len cap:Nat) (w:w_) (hl:len≤1048576) (h:Rd r a len cap w):
  k_ J3 40 #[p_ (o_ ⟨r,0,n_⟩)] w fun e w'=> ∃ v:Int,0≤v∧v≤255∧e=r_ (i_ j_ v)∧gG r w w'∧Rd r a len cap w':=by
 obtain ⟨⟨p,hp,hr⟩,hb⟩:=h;have c0:w.cell? ⟨r,0,n_⟩=o_ (s_ a len cap):=by simp [World.cell?,hr]
 have c1:w.cell? ⟨r,1,n_⟩=o_ (i_ j_ p):=by simp [World.cell?,hr]
 have f1:w.frozen? ⟨r,1,n_⟩=false:=Ko w _ _ _ _ hr;have HR:Hid (w.heap[r]? =o_ (c_ #[s_ a len cap,i_ j_ p] 103)):=hr;have HB:Hid (Buf w r a len):=hb;clear hr hb;by_cases hlt:len≤p
 ·have hd:decide ((len:Int)≤(p:Int))=true:=by simp; omega
  go_enter func40,ntmps40
  go_wp2
  go_region_held3 (fun w'=>w'.cell? ⟨r,0,n_⟩=o_ (s_ a len cap)∧w'.cell? ⟨r,1,n_⟩=o_ (i_ j_ p)) (go_keep) (fail)
  go_wp2;go_ret;exact ⟨0,by omega,by omega,rfl,(gG.refl _ _).drew,⟨p,hp,HR.I⟩,HB.I.but (gG.refl _ _).drew⟩
 ·have hd:decide ((len:Int)≤(p:Int))=false:=by simp; omega
  rcases HB.I with h0 | ⟨b,off,rfl,hbr,hc⟩
  ·omega
  obtain ⟨v,hv,v0,v1⟩:=hc p (by omega);have xc:=Le hv;have hpw:IntKind.i64.wrap (p:Int)=(p:Int):=by rw [K8]; omega
  have hbr': ¬ r=b:=fun e=>hbr e.symm
  have i0:(0:Int)≤(p:Int):=by omega
  have i1:(p:Int) < (len:Int):=by omega
  clear hc
  go_enter func40,ntmps40
  go_wp2
  go_region_held3 (fun w'=>w'.cell? ⟨r,0,n_⟩=o_ (s_ (o_ ⟨b,off,n_⟩) len cap)∧w'.cell? ⟨r,1,n_⟩=o_ (i_ j_ p)) (go_keep) (fail)
  go_wp2;have k0:(w.setCell ⟨r,1,n_⟩ (i_ j_ ((p:Int)+1))).cell? ⟨r,0,n_⟩=o_ (s_ (o_ ⟨b,off,n_⟩) len cap):=by rw [World.cell?_setCell_other _ _ _ _ (by simp)]; exact c0
  have k1:(w.setCell ⟨r,1,n_⟩ (i_ j_ ((p:Int)+1))).cell? ⟨r,1,n_⟩=o_ (i_ j_ ((p:Int)+1)):=World.cell?_setCell_same' _ _ _ (by rw [c1]; rfl);have k2:(w.setCell ⟨r,1,n_⟩ (i_ j_ ((p:Int)+1))).cell? ⟨b,off+p,n_⟩=o_ (i_ .u8 v):=by rw [World.cell?_setCell_other _ _ _ _ (by intro h; have:=congrArg Addr.block h; simp at this; omega)]; exact hv
  have k3:(w.setCell ⟨r,1,n_⟩ (i_ j_ ((p:Int)+1))).heap[r]? =o_ (c_ #[s_ (o_ ⟨b,off,n_⟩) len cap,i_ j_ ((p:Int)+1)] 103):=K7 _ _ _ _ _ _ HR.I;have HK:Hid ((w.setCell ⟨r,1,n_⟩ (i_ j_ ((p:Int)+1))).heap[r]? =o_ (c_ #[s_ (o_ ⟨b,off,n_⟩) len cap,i_ j_ ((p:Int)+1)] 103)∧gG r w (w.setCell ⟨r,1,n_⟩ (i_ j_ ((p:Int)+1)))):=⟨k3,(gG.refl _ _).setCell _ _⟩
  clear k3 c0 c1 hv f1;generalize w.setCell ⟨r,1,n_⟩ (i_ j_ ((p:Int)+1))=W1 at *
  go_region_held3 (fun w'=>w'.cell? ⟨r,0,n_⟩=o_ (s_ (o_ ⟨b,off,n_⟩) len cap)∧w'.cell? ⟨r,1,n_⟩=o_ (i_ j_ ((p:Int)+1))∧w'.cell? ⟨b,off+p,n_⟩=o_ (i_ .u8 v)) (go_keep) (fail)
  have hvw:IntKind.i64.wrap v=v:=by rw [K8]; omega
  go_wp2;go_ret;exact ⟨v,v0,v1,ck (by first | rfl | exact hvw),HK.I.2.drew.drew,⟨p+1,by omega,by have:=HK.I.1; exact this⟩,HB.I.but HK.I.2.drew.drew⟩
theorem dh (r:Nat) (a:Option d_) (len cap:Nat) (n:Int) (w:w_) (hl:len≤1048576) (n0:2≤n) (n1:n≤256) (h:Rd r a len cap w):
  k_ J3 25 #[p_ (o_ ⟨r,0,n_⟩),i_ j_ n] w fun e w'=> ∃ v:Int,0≤v∧v < n∧e=r_ (i_ j_ v)∧gG r w w'∧Rd r a len cap w':=by
 have k1: ¬ n≤1:=by omega
 have k2: ¬ n=0:=by omega
 go_enter func25,ntmps25
 go_wp2_with fail;refine (A9 r a len cap _ hl h).mono ?_;rintro e w1 ⟨v,v0,v1,rfl,hb,hr⟩;have m0:0≤v % n:=Int.emod_nonneg _ k2;have m1:v % n < n:=Int.emod_lt_of_pos _ (by omega);go_wp2;go_ret;exact ⟨v % n,m0,m1,rfl,hb,hr⟩
theorem jt (r:Nat) (a:Option d_) (len cap:Nat) (n:Int) (w:w_) (hl:len≤1048576) (n0:2≤n) (n1:n≤256) (h:Rd r a len cap w):
  k_ J3 23 #[p_ (o_ ⟨r,0,n_⟩),i_ j_ n] w fun e w'=> ∃ v:Bool,e=r_ (b_ v)∧gG r w w'∧Rd r a len cap w':=by
 go_enter func23,ntmps23
 go_wp2_with fail;refine (dh r a len cap n _ hl n0 n1 h).mono ?_;rintro e w1 ⟨v,v0,v1,rfl,hb,hr⟩;go_wp2;go_ret;exact ⟨_,rfl,hb,hr⟩
theorem BO (r:Nat) (a:Option d_) (len cap:Nat) (w:w_) (hl:len≤1048576) (h:Rd r a len cap w):
  k_ J3 81 #[p_ (o_ ⟨r,0,n_⟩)] w fun e w'=> ∃ v:Int,e=r_ (i_ .u64 v)∧gG r w w'∧Rd r a len cap w':=by
 go_enter func81,ntmps81
 go_wp2
 go_loopw [3,4] (fun x i wr=> ∃ (k:Nat) (y:Int),k≤8∧i=i_ j_ k∧x=i_ .u64 y∧gG r w wr∧Rd r a len cap wr) (fun _ i _=>8 - (intOf i).toNat)
 case atStart=>exact ⟨0,0,by omega,rfl,rfl,gG.refl _ _,h⟩
 case round=>
  obtain ⟨k,y,hk,rfl,rfl,hb,hr⟩:=hrel;by_cases hlt:k < 8
  ·go_wp2_with fail
   refine (A9 r a len cap _ hl hr).mono ?_;rintro e w1 ⟨v,v0,v1,rfl,hb1,hr1⟩;go_wp2;go_roundw
   case rel=>exact ⟨k+1,_,by omega,by go_num,rfl,hb.trans hb1,hr1⟩
   case measure=>simp [intOf]; omega
  ·go_wp2
   go_ret;exact ⟨y,rfl,hb,hr⟩
theorem FM (r:Nat) (a:Option d_) (len cap:Nat) (low high:Int) (w:w_) (hl:len≤1048576) (l0: -1≤low) (l1:low≤high) (l2:high≤1000000000) (h:Rd r a len cap w):
  k_ J3 39 #[p_ (o_ ⟨r,0,n_⟩),i_ j_ low,i_ j_ high] w fun e w'=> ∃ v:Int,e=r_ (i_ j_ v)∧gG r w w'∧Rd r a len cap w':=by
 have k1: ¬ high < low:=by omega
 have k2: ¬ high - low+1=0:=by omega
 go_enter func39,ntmps39
 go_wp2_with fail;refine (dh r a len cap 8 _ hl (by omega) (by omega) h).mono ?_;rintro e w1 ⟨v,v0,v1,rfl,hb,hr⟩;by_cases e0:v=0
 ·have b0:(v == 0)=true:=by simp [e0]
  go_wp2;go_ret;exact ⟨_,rfl,hb,hr⟩
 have b0:(v == 0)=false:=by simp [e0]
 by_cases e1:v=1
 ·have b1:(v == 1)=true:=by simp [e1]
  go_wp2;go_ret;exact ⟨_,rfl,hb,hr⟩
 have b1:(v == 1)=false:=by simp [e1]
 go_wp2_with fail;refine (BO r a len cap _ hl hr).mono ?_;exact Zb1
theorem pj (r:Nat) (a:Option d_) (len cap:Nat) (low high:Int) (w:w_) (hl:len≤1048576) (l0: -1≤low) (l1:low≤high) (l2:high≤1000000000) (h:Rd r a len cap w):
  k_ J3 24 #[p_ (o_ ⟨r,0,n_⟩),i_ j_ low,i_ j_ high] w fun e w'=> ∃ v:Int,e=r_ (i_ j_ v)∧gG r w w'∧Rd r a len cap w':=by
 go_enter func24,ntmps24
 go_wp2_with fail;refine (jt r a len cap 24 _ hl (by omega) (by omega) h).mono ?_;rintro e w1 ⟨v,rfl,hb,hr⟩;cases v with
 | true=>
  have rl:=hr.lt;go_wp2_with fail;refine (dh r a len cap 4 _ hl (by omega) (by omega) (hr.below ((Kp _ _).alloc (Ki _) _))).mono ?_;rintro e w2 ⟨v,v0,v1,rfl,hb2,hr2⟩;obtain ⟨n,rfl⟩:=QK v0;have hn:n < 4:=by omega
  have hy: ∃ y,w2.cell? ⟨w1.heap.size,n,n_⟩=o_ (i_ j_ y):=by
   rw [hb2.cell (p:=⟨w1.heap.size,n,n_⟩) (by simp) ZcT,World.cell?_alloc_new]
   match n,hn with
   | 0,_=>exact ⟨_,rfl⟩
   | 1,_=>exact ⟨_,rfl⟩
   | 2,_=>exact ⟨_,rfl⟩
   | 3,_=>exact ⟨_,rfl⟩
  obtain ⟨y,hy⟩:=hy;have HB:Hid (gG r w w2):=(hb.alloc _).trans hb2;clear hb2 hb;go_wp2;go_ret;exact ⟨y,rfl,HB.I,hr2⟩
 | false=>
  go_wp2_with fail;refine (FM r a len cap low high _ hl l0 l1 l2 hr).mono ?_;exact Zb1
theorem AJ {w w':w_} {base e size n r:Nat} {v:v_} {xs:List v_} (h:w.ownsRow base e size v n xs) (hb:gG r w w') (hr:r < base):w'.ownsRow base e size v n xs:=by
 obtain ⟨h1,h2⟩:=h;refine ⟨h1,?_⟩;rcases h2 with h2 | ⟨g,cap,cur,hv,hg,hh,rest⟩
 ·exact .inl h2
 ·exact .inr ⟨g,cap,cur,hv,hg,(hb.block g (J2.1 hh).1 (by omega)).trans hh,rest⟩
theorem gG.grown {r:Nat} {a w w':w_} {row:Option Nat} (h:gG r a w) (hg:w.grownBy w' row) (hr: ∀ k,row=o_ k→a.heap.size≤k):gG r a w':=
 ⟨hg.os.trans h.os,hg.tape.trans h.tape,hg.output.trans h.output,LG h.size hg.size,fun k hk hkr=>
  (hg.block k (Kn hk h.size) (fun e=>by have:=hr k e.symm; omega)).trans (h.block k hk hkr)⟩
theorem gG.sF {r:Nat} {a w:w_} (h:gG r a w) (b i:Nat) (v:v_) (hb:a.heap.size≤b):gG r a (w.setCell ⟨b,i,n_⟩ v):=
 ⟨h.os,h.tape,h.output,by simpa using h.size,fun k hk hr=>(K6 _ _ _ _ ZcT).trans (h.block k hk hr)⟩
def mn (id next:Int):v_:=a_ #[i_ j_ id,i_ j_ next,s_ n_ 0 0,s_ n_ 0 0,s_ n_ 0 0,s_ n_ 0 0,s_ n_ 0 0,s_ n_ 0 0]
theorem tJ (id:Int) (w:w_):k_ J3 72 #[i_ j_ id] w fun e w'=>e=r_ (u_ #[if cv id 1 6=true then mn id 1 else mn 0 0,b_ (cv id 1 6)])∧B_ w.heap.size w w':=by
 cases h:cv id 1 6 with
 | true=>
  go_enter func72,ntmps72
  go_wp2_with (go_at_call 27; refine (dx _ _ _ _).mono ?_; rintro e w' ⟨rfl,rfl⟩; rw [h]);exact KT (v:=u_ #[mn id 1,b_ true]) (by simp [results,results72,go_sem,mn]) rfl ⟨rfl,by go_grown⟩
 | false=>
  go_enter func72,ntmps72
  go_wp2_with (go_at_call 27; refine (dx _ _ _ _).mono ?_; rintro e w' ⟨rfl,rfl⟩; rw [h]);exact KT (v:=u_ #[mn 0 0,b_ false]) (by simp [results,results72,go_sem,mn]) rfl ⟨rfl,by go_grown⟩
theorem DG (a:Option d_) (len cap:Nat) (w:w_):k_ J3 7 #[s_ a len cap] w fun e w'=>e=r_ (b_ (decide (1048576 < len)))∧w'=w:=by
 by_cases h:1048576 < len
 ·have h':(1048576:Int) < (len:Int):=by omega
  go_enter func7,ntmps7
  go_wp2;go_ret;exact ⟨al (by simp [h]),rfl⟩
 ·have h': ¬ (1048576:Int) < (len:Int):=by omega
  go_enter func7,ntmps7
  go_wp2;go_ret;exact ⟨al (by simp),rfl⟩
def pJ (k:Int):Prop:=k=1∨k=2∨k=4∨k=5∨k=6∨k=11∨k=14∨k=15∨k=16
def mF (k:Int):Prop:=k=3∨k=7∨k=9∨k=12
def isText (k:Int):Prop:=k=10∨k=13
def bI (s:ByteArray):Bool:=s.toList.isEmpty
def mQ (k n m:Int) (s:ByteArray):Bool:=
 if k=1∨k=2∨k=4∨k=5∨k=6∨k=11∨k=14∨k=15∨k=16 then cv n 1 1000 && decide (m=0) && bI s
 else if k=3∨k=7∨k=9∨k=12 then cv n 1 1000 && cv m (-1) 1000 && bI s
 else if k=8 then cv n 1 1000 && cv m (-1) 1000 && bw s
 else if k=10∨k=13 then cv n 1 1000 && decide (m=0) && bw s
 else if k=17 then decide (n=0) && decide (m=0) && bI s
 else false
theorem Cr (k n m:Int) (s:ByteArray) (w:w_) (hk:pJ k):
  k_ J3 119 #[a_ #[i_ j_ k,i_ j_ n,i_ j_ m,t_ s]] w fun e w'=>e=r_ (b_ (mQ k n m s))∧B_ w.heap.size w w':=by
 rcases hk with rfl | rfl | rfl | rfl | rfl | rfl | rfl | rfl | rfl
 all_goals
  simp only [mQ,Int.reduceEq,or_true,or_false,or_self,if_true,if_false]
  go_enter func119,ntmps119
  go_wp2_with (go_at_call 27; refine (dx _ _ _ _).mono ?_; rintro e w' ⟨rfl,rfl⟩)
  all_goals go_ret
  all_goals exact ⟨al (by simp_all [bI]),by go_grown⟩
theorem BH (k n m:Int) (s:ByteArray) (w:w_) (hk:mF k):
  k_ J3 119 #[a_ #[i_ j_ k,i_ j_ n,i_ j_ m,t_ s]] w fun e w'=>e=r_ (b_ (mQ k n m s))∧B_ w.heap.size w w':=by
 rcases hk with rfl | rfl | rfl | rfl
 all_goals
  simp only [mQ,Int.reduceEq,or_true,or_false,or_self,if_true,if_false]
  go_enter func119,ntmps119
  go_wp2_with (go_at_call 27; refine (dx _ _ _ _).mono ?_; rintro e w' ⟨rfl,rfl⟩)
  all_goals go_ret
  all_goals exact ⟨al (by simp_all [bI]),by go_grown⟩
theorem Bu (k n m:Int) (s:ByteArray) (w:w_) (hs:s.size≤1048576) (hk:isText k):
  k_ J3 119 #[a_ #[i_ j_ k,i_ j_ n,i_ j_ m,t_ s]] w fun e w'=>e=r_ (b_ (mQ k n m s))∧B_ w.heap.size w w':=by
 rcases hk with rfl | rfl
 all_goals
  simp only [mQ,Int.reduceEq,or_true,or_false,or_self,if_true,if_false]
  go_enter func119,ntmps119
  go_wp2_with (first | (go_at_call 27; refine (dx _ _ _ _).mono ?_; rintro e w' ⟨rfl,rfl⟩) | (go_at_call 82; refine (jC _ _ hs).mono ?_; rintro e w' ⟨rfl,rfl⟩))
  all_goals go_ret
  all_goals exact ⟨al (by simp_all),by go_grown⟩
theorem BZ (k n m:Int) (s:ByteArray) (w:w_) (hs:s.size≤1048576) (hk:k=8∨k=17):
  k_ J3 119 #[a_ #[i_ j_ k,i_ j_ n,i_ j_ m,t_ s]] w fun e w'=>e=r_ (b_ (mQ k n m s))∧B_ w.heap.size w w':=by
 rcases hk with rfl | rfl
 all_goals
  simp only [mQ,Int.reduceEq,or_self,if_true,if_false]
  go_enter func119,ntmps119
  go_wp2_with (first | (go_at_call 27; refine (dx _ _ _ _).mono ?_; rintro e w' ⟨rfl,rfl⟩) | (go_at_call 82; refine (jC _ _ hs).mono ?_; rintro e w' ⟨rfl,rfl⟩))
  all_goals go_ret
  all_goals exact ⟨al (by simp_all [bI]),by go_grown⟩
theorem Bd {k n m:Int} {s:ByteArray} (h: ¬ (1≤k∧k≤17)):mQ k n m s=false:=by
 unfold mQ;exact ZbM
theorem B9 (k n m:Int) (s:ByteArray) (w:w_) (hk: ¬ (1≤k∧k≤17)):
  k_ J3 119 #[a_ #[i_ j_ k,i_ j_ n,i_ j_ m,t_ s]] w fun e w'=>e=r_ (b_ (mQ k n m s))∧B_ w.heap.size w w':=by
 rw [Bd hk];have e1:(k == 1)=false:=by simp; omega
 have e2:(k == 2)=false:=by simp; omega
 have e3:(k == 3)=false:=by simp; omega
 have e4:(k == 4)=false:=by simp; omega
 have e5:(k == 5)=false:=by simp; omega
 have e6:(k == 6)=false:=by simp; omega
 have e7:(k == 7)=false:=by simp; omega
 have e8:(k == 8)=false:=by simp; omega
 have e9:(k == 9)=false:=by simp; omega
 have Pn:(k == 10)=false:=by simp; omega
 have e11:(k == 11)=false:=by simp; omega
 have PF:(k == 12)=false:=by simp; omega
 have PG:(k == 13)=false:=by simp; omega
 have e14:(k == 14)=false:=by simp; omega
 have e15:(k == 15)=false:=by simp; omega
 have e16:(k == 16)=false:=by simp; omega
 have PH:(k == 17)=false:=by simp; omega
 go_enter func119,ntmps119
 go_wp2_with (go_at_call 27; refine (dx _ _ _ _).mono ?_; rintro e w' ⟨rfl,rfl⟩);go_ret;exact ⟨rfl,by go_grown⟩
theorem xZ (k n m:Int) (s:ByteArray) (w:w_) (hs:s.size≤1048576):
  k_ J3 119 #[a_ #[i_ j_ k,i_ j_ n,i_ j_ m,t_ s]] w fun e w'=>e=r_ (b_ (mQ k n m s))∧B_ w.heap.size w w':=by
 by_cases h0:1≤k∧k≤17
 ·by_cases h1:pJ k
  ·exact Cr k n m s w h1
  by_cases h2:mF k
  ·exact BH k n m s w h2
  by_cases h3:isText k
  ·exact Bu k n m s w hs h3
  exact BZ k n m s w hs ZdN
 ·exact B9 k n m s w h0
def Bytes (w:w_) (a:Option d_) (len:Nat):Prop:=len=0∨ ∃ b off,a=o_ ⟨b,off,n_⟩∧ ∀ i,i < len→ ∃ v:Int,w.cell? ⟨b,off+i,n_⟩=o_ (i_ .u8 v)∧0≤v∧v≤255
theorem Bytes.below {w w':w_} {a:Option d_} {len:Nat} (h:Bytes w a len) (hb:B_ w.heap.size w w'):Bytes w' a len:=by
 rcases h with h | ⟨b,off,e,hc⟩
 ·exact .inl h
 ·refine .inr ⟨b,off,e,fun i hi=> ?_⟩
  obtain ⟨v,hv,hv'⟩:=hc i hi;exact ⟨v,(J1 (w:=w) (hb.block b (Le hv))).trans hv,hv'⟩
theorem Bytes.buf {w:w_} {a:Option d_} {len:Nat} (h:Bytes w a len):Buf w w.heap.size a len:=by
 rcases h with h | ⟨b,off,e,hc⟩
 ·exact .inl h
 ·rcases Nat.eq_zero_or_pos len with h0 | h0
  ·exact .inl h0
  ·refine .inr ⟨b,off,e,?_,hc⟩
   obtain ⟨v,hv,_⟩:=hc 0 h0
   have:=Le hv
   simp at this; omega
theorem Gj (a:Option d_) (len cap:Nat) (w:w_) (hb:Bytes w a len):
  k_ J3 21 #[s_ a len cap] w fun e w'=>e=r_ (p_ (o_ ⟨w.heap.size,0,n_⟩))∧B_ w.heap.size w w'∧Rd w.heap.size a len cap w'∧gG w.heap.size w w':=by
 go_enter func21,ntmps21
 go_wp2;go_ret;exact ⟨rfl,(Kp _ _).alloc (Ki _) _,⟨⟨0,by omega,Kj w _⟩,hb.buf.but ((gG.refl _ _).alloc _)⟩,(gG.refl _ _).alloc _⟩
abbrev dN:=Int × Int × Int × ByteArray
def kc (o:dN):Bool:=mQ o.1 o.2.1 o.2.2.1 o.2.2.2
theorem eW (n:Int) (w:w_):k_ J3 129 #[i_ j_ n] w fun e w'=>e=r_ (b_ (cv n 1 1000))∧w'=w:=by
 by_cases h1:1≤n
 ·by_cases h2:n≤1000
  ·go_enter func129,ntmps129
   exact Zbn
  ·go_enter func129,ntmps129
   exact Za6
 ·go_enter func129,ntmps129
  exact Za7
theorem iX (n:Int) (w:w_):k_ J3 245 #[i_ j_ n] w fun e w'=>e=r_ (b_ (cv n (-1) 1000))∧w'=w:=by
 by_cases h1: -1≤n
 ·by_cases h2:n≤1000
  ·go_enter func245,ntmps245
   exact Zbn
  ·go_enter func245,ntmps245
   exact Za6
 ·go_enter func245,ntmps245
  exact Za7
/-! ### Which form an interface value bears. -/
theorem ze (v:v_) (w:w_):(Instr.typeAssert (.iface 315 v) 302 315 true).run J3 w= .ok (u_ #[v,b_ true]) w:=by kernel_rfl
theorem uC (v:v_) (w:w_):(Instr.typeAssert (.iface 307 v) 302 315 true).run J3 w= .ok (u_ #[a_ #[i_ j_ 0],b_ false]) w:=by kernel_rfl
theorem sG (v:v_) (w:w_):(Instr.typeAssert (.iface 307 v) 302 307 true).run J3 w= .ok (u_ #[v,b_ true]) w:=by kernel_rfl
theorem zv (v:v_) (w:w_):(Instr.typeAssert (.iface 309 v) 302 315 true).run J3 w= .ok (u_ #[a_ #[i_ j_ 0],b_ false]) w:=by kernel_rfl
theorem uY (v:v_) (w:w_):(Instr.typeAssert (.iface 309 v) 302 307 true).run J3 w= .ok (u_ #[a_ #[i_ j_ 0,i_ j_ 0],b_ false]) w:=by kernel_rfl
theorem y8 (v:v_) (w:w_):(Instr.typeAssert (.iface 309 v) 302 309 true).run J3 w= .ok (u_ #[v,b_ true]) w:=by kernel_rfl
theorem zt (v:v_) (w:w_):(Instr.typeAssert (.iface 311 v) 302 315 true).run J3 w= .ok (u_ #[a_ #[i_ j_ 0],b_ false]) w:=by kernel_rfl
theorem vh (v:v_) (w:w_):(Instr.typeAssert (.iface 311 v) 302 307 true).run J3 w= .ok (u_ #[a_ #[i_ j_ 0,i_ j_ 0],b_ false]) w:=by kernel_rfl
theorem yQ (v:v_) (w:w_):(Instr.typeAssert (.iface 311 v) 302 309 true).run J3 w= .ok (u_ #[a_ #[i_ j_ 0,i_ j_ 0,i_ j_ 0],b_ false]) w:=by kernel_rfl
theorem yj (v:v_) (w:w_):(Instr.typeAssert (.iface 311 v) 302 311 true).run J3 w= .ok (u_ #[v,b_ true]) w:=by kernel_rfl
theorem zq (v:v_) (w:w_):(Instr.typeAssert (.iface 313 v) 302 315 true).run J3 w= .ok (u_ #[a_ #[i_ j_ 0],b_ false]) w:=by kernel_rfl
theorem vy (v:v_) (w:w_):(Instr.typeAssert (.iface 313 v) 302 307 true).run J3 w= .ok (u_ #[a_ #[i_ j_ 0,i_ j_ 0],b_ false]) w:=by kernel_rfl
theorem yt (v:v_) (w:w_):(Instr.typeAssert (.iface 313 v) 302 309 true).run J3 w= .ok (u_ #[a_ #[i_ j_ 0,i_ j_ 0,i_ j_ 0],b_ false]) w:=by kernel_rfl
theorem yM (v:v_) (w:w_):(Instr.typeAssert (.iface 313 v) 302 311 true).run J3 w= .ok (u_ #[a_ #[i_ j_ 0,i_ j_ 0,i_ j_ 0,t_ ByteArray.empty],b_ false]) w:=by kernel_rfl
theorem yU (v:v_) (w:w_):(Instr.typeAssert (.iface 313 v) 302 313 true).run J3 w= .ok (u_ #[v,b_ true]) w:=by kernel_rfl
theorem my (k:Int) (w:w_):
  k_ J3 244 #[.iface 315 (a_ #[i_ j_ k])] w fun e w'=>e=r_ (b_ (true))∧B_ w.heap.size w w':=by
 have yW:=ze (a_ #[i_ j_ k])
 exact AM
theorem mC (k n:Int) (w:w_):
  k_ J3 244 #[.iface 307 (a_ #[i_ j_ k,i_ j_ n])] w fun e w'=>e=r_ (b_ (cv n 1 1000))∧B_ w.heap.size w w':=by
 have yW:=uC (a_ #[i_ j_ k,i_ j_ n]);have ur:=sG (a_ #[i_ j_ k,i_ j_ n])
 exact AM
theorem sH (k n m:Int) (w:w_):
  k_ J3 244 #[.iface 309 (a_ #[i_ j_ k,i_ j_ n,i_ j_ m])] w fun e w'=>e=r_ (b_ (cv n 1 1000 && cv m (-1) 1000))∧B_ w.heap.size w w':=by
 have yW:=zv (a_ #[i_ j_ k,i_ j_ n,i_ j_ m]);have ur:=uY (a_ #[i_ j_ k,i_ j_ n,i_ j_ m]);have GI:=y8 (a_ #[i_ j_ k,i_ j_ n,i_ j_ m])
 exact AM
theorem Bc (k n m:Int) (s:ByteArray) (w:w_) (hs:s.size≤1048576):
  k_ J3 244 #[.iface 311 (a_ #[i_ j_ k,i_ j_ n,i_ j_ m,t_ s])] w fun e w'=>e=r_ (b_ (cv n 1 1000 && cv m (-1) 1000 && bw s))∧B_ w.heap.size w w':=by
 have yW:=zt (a_ #[i_ j_ k,i_ j_ n,i_ j_ m,t_ s]);have ur:=vh (a_ #[i_ j_ k,i_ j_ n,i_ j_ m,t_ s]);have GI:=yQ (a_ #[i_ j_ k,i_ j_ n,i_ j_ m,t_ s]);have h_send:=yj (a_ #[i_ j_ k,i_ j_ n,i_ j_ m,t_ s])
 exact S_
theorem sL (k n:Int) (s:ByteArray) (w:w_) (hs:s.size≤1048576):
  k_ J3 244 #[.iface 313 (a_ #[i_ j_ k,i_ j_ n,t_ s])] w fun e w'=>e=r_ (b_ (cv n 1 1000 && bw s))∧B_ w.heap.size w w':=by
 have yW:=zq (a_ #[i_ j_ k,i_ j_ n,t_ s]);have ur:=vy (a_ #[i_ j_ k,i_ j_ n,t_ s]);have GI:=yt (a_ #[i_ j_ k,i_ j_ n,t_ s]);have h_send:=yM (a_ #[i_ j_ k,i_ j_ n,t_ s]);have h_text:=yU (a_ #[i_ j_ k,i_ j_ n,t_ s])
 exact S_
def Row (w:w_) (a:Option d_) (xs:List v_):Prop:= ∀ (j:Nat) (u:v_),xs[j]? =o_ u→ ∃ g,a=o_ ⟨g,0,n_⟩∧w.cell? ⟨g,j,n_⟩=o_ u
section
variable {w w':w_} {a:Option d_} {xs:List v_}
theorem Row.nothing (w:w_) (a:Option d_):Row w a [] :=fun j u h=>by simp at h
theorem Row.same (h:Row w a xs) (hs: ∀ g,a=o_ ⟨g,0,n_⟩→w'.heap[g]? =w.heap[g]?):Row w' a xs:=fun j u hu=>by
 obtain ⟨g,e,hc⟩:=h j u hu;exact ⟨g,e,(J1 (w:=w) (a:=⟨g,j,n_⟩) (hs g e)).trans hc⟩
theorem Row.below (h:Row w a xs) (hb:B_ w.heap.size w w'):Row w' a xs:=fun j u hu=>by
 obtain ⟨g,e,hc⟩:=h j u hu;exact ⟨g,e,(hb.cell (p:=⟨g,j,n_⟩) (Le hc)).trans hc⟩
theorem Row.low {base:Nat} (h:Row w a xs) (ha: ∀ q,a=o_ q→q.block < base) (hb:B_ base w w'):Row w' a xs:=h.same fun g e=>hb.block g (ha _ e)
theorem Row.drew (h:Row w a xs):Row w.drew a xs:=h
end
def Src (w:w_) (a:Option d_) (xs:List v_):Prop:= ∀ (j:Nat) (u:v_),xs[j]? =o_ u→ ∃ b off,a=o_ ⟨b,off,n_⟩∧w.cell? ⟨b,off+j,n_⟩=o_ u
theorem Src.below {w w':w_} {a:Option d_} {xs:List v_} (h:Src w a xs) (hb:B_ w.heap.size w w'):Src w' a xs:=fun j u hu=>by
 obtain ⟨b,off,e,hc⟩:=h j u hu;exact ⟨b,off,e,(hb.cell (p:=⟨b,off+j,n_⟩) (Le hc)).trans hc⟩
structure Kind (α:Type) where
 n:Nat
 vals:α→List v_
 kids:α→List (Option d_ × List v_)
 pos:0 < n
 len: ∀ x,(vals x).length=n
section
variable {α:Type} (K:Kind α)
def Kind.flat (l:List α):List v_:=l.flatMap K.vals
theorem Kind.dM (l:List α):(K.flat l).length=l.length * K.n:=by
 induction l with
 | nil=>simp [Kind.flat]
 | cons x r ih=>
  show (K.vals x ++ K.flat r).length=_
  rw [List.length_append,ih,K.len,Lg,Lh];omega
theorem Kind.jw {l:List α} {i:Nat} {x:α} (hx:l[i]? =o_ x) {j:Nat} (hj:j < K.n):(K.flat l)[i * K.n+j]? =(K.vals x)[j]? :=by
 induction l generalizing i with
 | nil=>simp at hx
 | cons y r ih=>
  show (K.vals y ++ K.flat r)[_]? =_
  cases i with
  | zero=>
   simp at hx;subst hx;rw [Nat.zero_mul,Nat.zero_add,List.getElem?_append_left (by rw [K.len]; exact hj)]
  | succ i=>
   have hx':r[i]? =o_ x:=by simpa using hx
   rw [List.getElem?_append_right (by rw [K.len,Lh]; omega),K.len,show (i+1) * K.n+j - K.n=i * K.n+j by rw [Lh]; omega];exact ih hx'
theorem Kind.dc (l r:List α):K.flat (l ++ r)=K.flat l ++ K.flat r:=List.flatMap_append
theorem Kind.GJ (x:α):K.flat [x] =K.vals x:=by simp [Kind.flat]
def Kind.bU (w:w_) (a:Option d_) (l:List α):Prop:=Row w a (K.flat l)∧ ∀ x∈l,∀ r∈K.kids x,Row w r.1 r.2
variable {K}
theorem Kind.bU.at {w:w_} {a:Option d_} {l:List α} (h:K.bU w a l) {i:Nat} {x:α} (hx:l[i]? =o_ x):
  ∃ g,a=o_ ⟨g,0,n_⟩∧ ∀ (j:Nat) (u:v_),(K.vals x)[j]? =o_ u→w.cell? ⟨g,i * K.n+j,n_⟩=o_ u:=by
 have h0: ∃ u,(K.vals x)[0]? =o_ u:=⟨_,Kz (by rw [K.len]; exact K.pos)⟩
 obtain ⟨u0,hu0⟩:=h0;obtain ⟨g,e,_⟩:=h.1 (i * K.n+0) u0 ((K.jw hx K.pos).trans hu0);refine ⟨g,e,fun j u hu=> ?_⟩;have hj:j < K.n:=by
  rw [← K.len x];exact (Lj.1 hu).1
 obtain ⟨g',e',hc⟩:=h.1 (i * K.n+j) u ((K.jw hx hj).trans hu);rw [e] at e';cases e';exact hc
theorem Kind.bU.bt {w:w_} {a:Option d_} {l:List α} (h:K.bU w a l) {i:Nat} {x:α} (hx:l[i]? =o_ x) {r:Option d_ × List v_} (hr:r∈K.kids x):Row w r.1 r.2:=h.2 x (KA hx) r hr
variable (K) in
def Kind.ep (w:w_) (a:Option d_) (l:List α):Prop:=Src w a (K.flat l)∧ ∀ x∈l,∀ r∈K.kids x,Src w r.1 r.2
theorem Kind.ep.at {w:w_} {a:Option d_} {l:List α} (h:K.ep w a l) {i:Nat} {x:α} (hx:l[i]? =o_ x):
  ∃ b off,a=o_ ⟨b,off,n_⟩∧ ∀ (j:Nat) (u:v_),(K.vals x)[j]? =o_ u→w.cell? ⟨b,off+i * K.n+j,n_⟩=o_ u:=by
 have h0: ∃ u,(K.vals x)[0]? =o_ u:=⟨_,Kz (by rw [K.len]; exact K.pos)⟩
 obtain ⟨u0,hu0⟩:=h0;obtain ⟨b,off,e,_⟩:=h.1 (i * K.n+0) u0 ((K.jw hx K.pos).trans hu0);refine ⟨b,off,e,fun j u hu=> ?_⟩;have hj:j < K.n:=by
  rw [← K.len x];exact (Lj.1 hu).1
 obtain ⟨b',off',e',hc⟩:=h.1 (i * K.n+j) u ((K.jw hx hj).trans hu);rw [e] at e';cases e';rw [Nat.add_assoc];exact hc
theorem Kind.ep.bt {w:w_} {a:Option d_} {l:List α} (h:K.ep w a l) {i:Nat} {x:α} (hx:l[i]? =o_ x) {r:Option d_ × List v_} (hr:r∈K.kids x):Src w r.1 r.2:=h.2 x (KA hx) r hr
theorem Kind.ep.below {w w':w_} {a:Option d_} {l:List α} (h:K.ep w a l) (hb:B_ w.heap.size w w'):K.ep w' a l:=⟨h.1.below hb,fun x hx r hr=>(h.2 x hx r hr).below hb⟩
theorem Kind.bU.below {w w':w_} {a:Option d_} {l:List α} (h:K.bU w a l) (hb:B_ w.heap.size w w'):K.bU w' a l:=⟨h.1.below hb,fun x hx r hr=>(h.2 x hx r hr).below hb⟩
end
def CC (o:dN):List v_:= [i_ j_ o.1,i_ j_ o.2.1,i_ j_ o.2.2.1,t_ o.2.2.2]
def fk:Kind dN:=⟨4,CC,fun _=> [],by decide,fun _=>rfl⟩
def bT:Kind ByteArray:=⟨1,fun s=> [t_ s],fun _=> [],by decide,fun _=>rfl⟩
def iG (w:w_) (g len:Nat) (K N M:Nat→Int) (S:Nat→ByteArray):Prop:=g < w.heap.size∧ ∀ j,j < len * 4→w.cell? ⟨g,j,n_⟩=o_ (xe K N M S j)
theorem iG.of_block {w w':w_} {g len:Nat} {K N M:Nat→Int} {S:Nat→ByteArray} (h:iG w g len K N M S) (e:w'.heap[g]? =w.heap[g]?):iG w' g len K N M S:=by
 exact ZbH
theorem iG.below {w w':w_} {g len:Nat} {K N M:Nat→Int} {S:Nat→ByteArray} (h:iG w g len K N M S) (hb:B_ w.heap.size w w'):iG w' g len K N M S:=h.of_block (hb.block g h.1)
theorem iG.c0 {w:w_} {g len:Nat} {K N M:Nat→Int} {S:Nat→ByteArray} (h:iG w g len K N M S) {i:Nat} (hi:i < len):w.cell? ⟨g,i * 4,n_⟩=o_ (i_ j_ (K i)):=by rw [← opV_0 K N M S]; exact h.2 _ (by omega)
theorem iG.c1 {w:w_} {g len:Nat} {K N M:Nat→Int} {S:Nat→ByteArray} (h:iG w g len K N M S) {i:Nat} (hi:i < len):w.cell? ⟨g,i * 4+1,n_⟩=o_ (i_ j_ (N i)):=by rw [← opV_1 K N M S]; exact h.2 _ (by omega)
theorem iG.c2 {w:w_} {g len:Nat} {K N M:Nat→Int} {S:Nat→ByteArray} (h:iG w g len K N M S) {i:Nat} (hi:i < len):w.cell? ⟨g,i * 4+2,n_⟩=o_ (i_ j_ (M i)):=by rw [← opV_2 K N M S]; exact h.2 _ (by omega)
theorem iG.c3 {w:w_} {g len:Nat} {K N M:Nat→Int} {S:Nat→ByteArray} (h:iG w g len K N M S) {i:Nat} (hi:i < len):w.cell? ⟨g,i * 4+3,n_⟩=o_ (t_ (S i)):=by rw [← opV_3 K N M S]; exact h.2 _ (by omega)
def j8 (K N M:Nat→Int) (S:Nat→ByteArray) (i:Nat):Bool:=mQ (K i) (N i) (M i) (S i)
def nq (len:Nat) (K N M:Nat→Int) (S:Nat→ByteArray):Bool:=decide (1≤len∧len≤20∧ ∀ i,i < len→j8 K N M S i=true)
theorem vM {len:Nat} {K N M:Nat→Int} {S:Nat→ByteArray} (h:1≤len∧len≤20∧ ∀ i,i < len→j8 K N M S i=true):nq len K N M S=true:=by simp only [nq]; exact decide_eq_true h
theorem iS {len:Nat} {K N M:Nat→Int} {S:Nat→ByteArray} (h: ¬ (1≤len∧len≤20∧ ∀ i,i < len→j8 K N M S i=true)):nq len K N M S=false:=by simp only [nq]; exact decide_eq_false h
end
section
open Go.RowKit
attribute [local go_sem ↓] Kc Kd
theorem pu (k:Int) (w:w_):k_ J3 290 #[a_ #[i_ j_ k]] w fun e w'=>e=r_ (a_ #[i_ j_ k,i_ j_ 0,i_ j_ 0,t_ ByteArray.empty])∧B_ w.heap.size w w':=by
 go_enter func290,ntmps290
 go_wp2;exact KT (v:=a_ #[i_ j_ k,i_ j_ 0,i_ j_ 0,t_ ByteArray.empty]) (by simp [results,results290,go_sem]; try rfl) rfl ⟨rfl,by go_grown⟩
theorem oJ (k n:Int) (w:w_):k_ J3 286 #[a_ #[i_ j_ k,i_ j_ n]] w fun e w'=>e=r_ (a_ #[i_ j_ k,i_ j_ n,i_ j_ 0,t_ ByteArray.empty])∧B_ w.heap.size w w':=by
 go_enter func286,ntmps286
 go_wp2;exact KT (v:=a_ #[i_ j_ k,i_ j_ n,i_ j_ 0,t_ ByteArray.empty]) (by simp [results,results286,go_sem]; try rfl) rfl ⟨rfl,by go_grown⟩
theorem xk (k n m:Int) (w:w_):k_ J3 287 #[a_ #[i_ j_ k,i_ j_ n,i_ j_ m]] w fun e w'=>e=r_ (a_ #[i_ j_ k,i_ j_ n,i_ j_ m,t_ ByteArray.empty])∧B_ w.heap.size w w':=by
 go_enter func287,ntmps287
 go_wp2;exact KT (v:=a_ #[i_ j_ k,i_ j_ n,i_ j_ m,t_ ByteArray.empty]) (by simp [results,results287,go_sem]; try rfl) rfl ⟨rfl,by go_grown⟩
theorem Fc (k n m:Int) (s:ByteArray) (w:w_):k_ J3 288 #[a_ #[i_ j_ k,i_ j_ n,i_ j_ m,t_ s]] w fun e w'=>e=r_ (a_ #[i_ j_ k,i_ j_ n,i_ j_ m,t_ s])∧B_ w.heap.size w w':=by
 go_enter func288,ntmps288
 go_wp2;exact KT (v:=a_ #[i_ j_ k,i_ j_ n,i_ j_ m,t_ s]) (by simp [results,results288,go_sem]; try rfl) rfl ⟨rfl,by go_grown⟩
theorem xS (k n:Int) (s:ByteArray) (w:w_):k_ J3 289 #[a_ #[i_ j_ k,i_ j_ n,t_ s]] w fun e w'=>e=r_ (a_ #[i_ j_ k,i_ j_ n,i_ j_ 0,t_ s])∧B_ w.heap.size w w':=by
 go_enter func289,ntmps289
 go_wp2;exact KT (v:=a_ #[i_ j_ k,i_ j_ n,i_ j_ 0,t_ s]) (by simp [results,results289,go_sem]; try rfl) rfl ⟨rfl,by go_grown⟩
theorem DB (k n m:Int) (s:ByteArray) (w:w_) (hk:pJ k):
  k_ J3 243 #[a_ #[i_ j_ k,i_ j_ n,i_ j_ m,t_ s]] w fun e w'=>e=r_ (u_ #[.iface 307 (a_ #[i_ j_ k,i_ j_ n]),b_ true])∧B_ w.heap.size w w':=by
 rcases hk with rfl | rfl | rfl | rfl | rfl | rfl | rfl | rfl | rfl
 all_goals
  go_enter func243,ntmps243
  go_wp2;go_ret2;exact ⟨rfl,by go_grown⟩
theorem AC (k n m:Int) (s:ByteArray) (w:w_) (hk:mF k):
  k_ J3 243 #[a_ #[i_ j_ k,i_ j_ n,i_ j_ m,t_ s]] w fun e w'=>e=r_ (u_ #[.iface 309 (a_ #[i_ j_ k,i_ j_ n,i_ j_ m]),b_ true])∧B_ w.heap.size w w':=by
 rcases hk with rfl | rfl | rfl | rfl
 all_goals
  go_enter func243,ntmps243
  go_wp2;go_ret2;exact ⟨rfl,by go_grown⟩
theorem AE (k n m:Int) (s:ByteArray) (w:w_) (hk:k=8):
  k_ J3 243 #[a_ #[i_ j_ k,i_ j_ n,i_ j_ m,t_ s]] w fun e w'=>e=r_ (u_ #[.iface 311 (a_ #[i_ j_ k,i_ j_ n,i_ j_ m,t_ s]),b_ true])∧B_ w.heap.size w w':=by
 exact ZbJ
theorem BJ (k n m:Int) (s:ByteArray) (w:w_) (hk:isText k):
  k_ J3 243 #[a_ #[i_ j_ k,i_ j_ n,i_ j_ m,t_ s]] w fun e w'=>e=r_ (u_ #[.iface 313 (a_ #[i_ j_ k,i_ j_ n,t_ s]),b_ true])∧B_ w.heap.size w w':=by
 rcases hk with rfl | rfl
 all_goals
  go_enter func243,ntmps243
  go_wp2;go_ret2;exact ⟨rfl,by go_grown⟩
theorem Ag (k n m:Int) (s:ByteArray) (w:w_) (hk:k=17):
  k_ J3 243 #[a_ #[i_ j_ k,i_ j_ n,i_ j_ m,t_ s]] w fun e w'=>e=r_ (u_ #[.iface 315 (a_ #[i_ j_ k]),b_ true])∧B_ w.heap.size w w':=by
 exact ZbJ
theorem BR (k n m:Int) (s:ByteArray) (w:w_) (hk: ¬ (1≤k∧k≤17)):
  k_ J3 243 #[a_ #[i_ j_ k,i_ j_ n,i_ j_ m,t_ s]] w fun e w'=>e=r_ (u_ #[.iface 315 (a_ #[i_ j_ 0]),b_ false])∧B_ w.heap.size w w':=by
 have e1:(k == 1)=false:=by simp; omega
 have e2:(k == 2)=false:=by simp; omega
 have e3:(k == 3)=false:=by simp; omega
 have e4:(k == 4)=false:=by simp; omega
 have e5:(k == 5)=false:=by simp; omega
 have e6:(k == 6)=false:=by simp; omega
 have e7:(k == 7)=false:=by simp; omega
 have e8:(k == 8)=false:=by simp; omega
 have e9:(k == 9)=false:=by simp; omega
 have Pn:(k == 10)=false:=by simp; omega
 have e11:(k == 11)=false:=by simp; omega
 have PF:(k == 12)=false:=by simp; omega
 have PG:(k == 13)=false:=by simp; omega
 have e14:(k == 14)=false:=by simp; omega
 have e15:(k == 15)=false:=by simp; omega
 have e16:(k == 16)=false:=by simp; omega
 have PH:(k == 17)=false:=by simp; omega
 go_enter func243,ntmps243
 go_wp2;go_ret2;exact ⟨rfl,by go_grown⟩
end
section
open Go.RowKit
theorem xG {r:Nat} {W w2:w_} {xs:Array v_} {t:T_} {n:Nat} (hb:gG r (W.alloc (c_ xs t)) w2) (hr:r < W.heap.size):w2.cell? ⟨W.heap.size,n,n_⟩=xs[n]? :=by
 have hrow:w2.heap[W.heap.size]? =o_ (c_ xs t):=(hb.block _ (by simp) (by omega)).trans (Kj _ _);rw [K5 _ _ _ _ _ _ hrow]
theorem ajJ (r:Nat) (a:Option d_) (len cap:Nat) (w:w_) (hl:len≤1048576) (h:Rd r a len cap w):
  k_ J3 173 #[p_ (o_ ⟨r,0,n_⟩)] w fun e w'=> ∃ v:Int,e=r_ (i_ j_ v)∧gG r w w'∧Rd r a len cap w':=by
 have rl:=h.lt
 go_enter func173,ntmps173
 go_wp2_with fail;refine (dh r a len cap 5 _ hl (by omega) (by omega) (h.below ((Kp _ _).alloc (Ki _) _))).mono ?_;rintro e w2 ⟨v,v0,v1,rfl,hb2,hr2⟩;obtain ⟨n,rfl⟩:=QK v0;have hn:n < 5:=by omega
 have hy: ∃ y,w2.cell? ⟨w.heap.size,n,n_⟩=o_ (i_ j_ y):=by
  rw [xG hb2 rl]
  match n,hn with
  | 0,_=>exact ⟨_,rfl⟩
  | 1,_=>exact ⟨_,rfl⟩
  | 2,_=>exact ⟨_,rfl⟩
  | 3,_=>exact ⟨_,rfl⟩
  | 4,_=>exact ⟨_,rfl⟩
 obtain ⟨y,hy⟩:=hy;have HB:Hid (gG r w w2):=((gG.refl _ _).alloc _).trans hb2;clear hb2;go_wp2;go_ret;exact ⟨y,rfl,HB.I,hr2⟩
theorem B0 (r:Nat) (a:Option d_) (len cap:Nat) (w:w_) (hl:len≤1048576) (h:Rd r a len cap w):
  k_ J3 174 #[p_ (o_ ⟨r,0,n_⟩)] w fun e w'=> ∃ t:ByteArray,t.size≤3∧e=r_ (t_ t)∧gG r w w'∧Rd r a len cap w':=by
 have rl:=h.lt
 go_enter func174,ntmps174
 go_wp2_with fail;refine (dh r a len cap 5 _ hl (by omega) (by omega) (h.below ((Kp _ _).alloc (Ki _) _))).mono ?_;rintro e w2 ⟨v,v0,v1,rfl,hb2,hr2⟩;obtain ⟨n,rfl⟩:=QK v0;have hn:n < 5:=by omega
 have hy: ∃ y:ByteArray,y.size≤3∧w2.cell? ⟨w.heap.size,n,n_⟩=o_ (t_ y):=by
  rw [xG hb2 rl]
  match n,hn with
  | 0,_=>exact ⟨_,by decide,rfl⟩
  | 1,_=>exact ⟨_,by decide,rfl⟩
  | 2,_=>exact ⟨_,by decide,rfl⟩
  | 3,_=>exact ⟨_,by decide,rfl⟩
  | 4,_=>exact ⟨_,by decide,rfl⟩
 obtain ⟨y,hys,hy⟩:=hy;have HB:Hid (gG r w w2):=((gG.refl _ _).alloc _).trans hb2;clear hb2;go_wp2;go_ret;exact ⟨y,hys,rfl,HB.I,hr2⟩
structure fO (r:Nat) (a:Option d_) (len cap:Nat) (w x:w_) (q:Nat) (k n m:Int) (t:ByteArray):Prop where
 res:x.heap[w.heap.size]? =o_ (c_ #[i_ j_ 0,i_ j_ 0,i_ j_ 0,t_ ⟨#[]⟩] 45)
 op:x.heap[q]? =o_ (c_ #[i_ j_ k,i_ j_ n,i_ j_ m,t_ t] 45)
 but:gG r w x
 rd:Rd r a len cap x
 st:Rd r a len cap w
 lt:w.heap.size < q
theorem fO.rl {r:Nat} {a:Option d_} {len cap:Nat} {w x:w_} {q:Nat} {k n m:Int} {t:ByteArray} (h:fO r a len cap w x q k n m t):r < w.heap.size:=h.st.lt
theorem fO.move {r:Nat} {a:Option d_} {len cap:Nat} {w x y:w_} {q:Nat} {k n m:Int} {t:ByteArray} (h:fO r a len cap w x q k n m t) (hb:gG r x y) (hr:Rd r a len cap y):fO r a len cap w y q k n m t:=by
 have h1:=h.rl;have h2:=h.lt;exact ⟨(hb.block _ (J2.1 h.res).1 (by omega)).trans h.res,(hb.block _ (J2.1 h.op).1 (by omega)).trans h.op,h.but.trans hb,hr,h.st,h2⟩
theorem vp {r:Nat} {a:Option d_} {len cap:Nat} {w x:w_} (h:Rd r a len cap x) (st:Rd r a len cap w) (hb:gG r w x) {b i:Nat} (hbl:w.heap.size≤b) (v:v_):Rd r a len cap (x.setCell ⟨b,i,n_⟩ v):=by
 obtain ⟨p,hp,hrow⟩:=h.1;have hr:=st.lt;exact ⟨⟨p,hp,(K6 _ _ _ _ ZcT).trans hrow⟩,st.2.but (hb.sF b i v hbl)⟩
theorem fO.set {r:Nat} {a:Option d_} {len cap:Nat} {w x:w_} {q:Nat} {k n m k' n' m':Int} {t t':ByteArray} (h:fO r a len cap w x q k n m t) {i:Nat} {v:v_} (e:(#[i_ j_ k,i_ j_ n,i_ j_ m,t_ t] :Array v_).setIfInBounds i v= #[i_ j_ k',i_ j_ n',i_ j_ m',t_ t']):fO r a len cap w (x.setCell ⟨q,i,n_⟩ v) q k' n' m' t':=by
 have h2:=h.lt;refine ⟨(K6 _ _ _ _ ZcT).trans h.res,?_,h.but.sF q i v (by omega),vp h.rd h.st h.but (by omega) v,h.st,h2⟩;have h0:=K7 _ q i _ _ v h.op;rw [e] at h0;exact h0
theorem fO.ends {r:Nat} {a:Option d_} {len cap:Nat} {w x:w_} {q:Nat} {k n m k' n' m':Int} {t t':ByteArray} (h:fO r a len cap w x q k n m t):
  ((((x.setCell ⟨w.heap.size,0,n_⟩ (i_ j_ k')).setCell ⟨w.heap.size,1,n_⟩ (i_ j_ n')).setCell ⟨w.heap.size,2,n_⟩ (i_ j_ m')).setCell ⟨w.heap.size,3,n_⟩ (t_ t')).heap[w.heap.size]? =o_ (c_ #[i_ j_ k',i_ j_ n',i_ j_ m',t_ t'] 45)∧
  gG r w ((((x.setCell ⟨w.heap.size,0,n_⟩ (i_ j_ k')).setCell ⟨w.heap.size,1,n_⟩ (i_ j_ n')).setCell ⟨w.heap.size,2,n_⟩ (i_ j_ m')).setCell ⟨w.heap.size,3,n_⟩ (t_ t'))∧
  Rd r a len cap ((((x.setCell ⟨w.heap.size,0,n_⟩ (i_ j_ k')).setCell ⟨w.heap.size,1,n_⟩ (i_ j_ n')).setCell ⟨w.heap.size,2,n_⟩ (i_ j_ m')).setCell ⟨w.heap.size,3,n_⟩ (t_ t')):=by
 have b0:=h.but.sF w.heap.size 0 (i_ j_ k') (Ki _);have b1:=b0.sF w.heap.size 1 (i_ j_ n') (Ki _);have b2:=b1.sF w.heap.size 2 (i_ j_ m') (Ki _);have b3:=b2.sF w.heap.size 3 (t_ t') (Ki _);have d0:=vp h.rd h.st h.but (i:=0) (Ki _) (i_ j_ k');have d1:=vp d0 h.st b0 (i:=1) (Ki _) (i_ j_ n');have d2:=vp d1 h.st b1 (i:=2) (Ki _) (i_ j_ m');have d3:=vp d2 h.st b2 (i:=3) (Ki _) (t_ t');refine ⟨?_,b3,d3⟩;have e0:=K7 _ w.heap.size 0 _ _ (i_ j_ k') h.res;have e1:=K7 _ w.heap.size 1 _ _ (i_ j_ n') e0;have e2:=K7 _ w.heap.size 2 _ _ (i_ j_ m') e1;have e3:=K7 _ w.heap.size 3 _ _ (t_ t') e2;simpa using e3
theorem fO.cells {r:Nat} {a:Option d_} {len cap:Nat} {w x:w_} {q:Nat} {k n m:Int} {t:ByteArray} (h:fO r a len cap w x q k n m t):
  (x.cell? ⟨q,0,n_⟩=o_ (i_ j_ k)∧x.cell? ⟨q,1,n_⟩=o_ (i_ j_ n)∧x.cell? ⟨q,2,n_⟩=o_ (i_ j_ m)∧x.cell? ⟨q,3,n_⟩=o_ (t_ t))∧
  (x.cell? ⟨w.heap.size,0,n_⟩=o_ (i_ j_ 0)∧x.cell? ⟨w.heap.size,1,n_⟩=o_ (i_ j_ 0)∧x.cell? ⟨w.heap.size,2,n_⟩=o_ (i_ j_ 0)∧x.cell? ⟨w.heap.size,3,n_⟩=o_ (t_ ⟨#[]⟩))∧
  (∀ i,x.frozen? ⟨q,i,n_⟩=false)∧(∀ i,x.frozen? ⟨w.heap.size,i,n_⟩=false):=by
 refine ⟨⟨?_,?_,?_,?_⟩,⟨?_,?_,?_,?_⟩,fun i=>Ko _ _ _ _ _ h.op,fun i=>Ko _ _ _ _ _ h.res⟩
 ·rw [K5 _ _ _ _ _ _ h.op]; rfl
 ·rw [K5 _ _ _ _ _ _ h.op]; rfl
 ·rw [K5 _ _ _ _ _ _ h.op]; rfl
 ·rw [K5 _ _ _ _ _ _ h.op]; rfl
 ·rw [K5 _ _ _ _ _ _ h.res]; rfl
 ·rw [K5 _ _ _ _ _ _ h.res]; rfl
 ·rw [K5 _ _ _ _ _ _ h.res]; rfl
 ·rw [K5 _ _ _ _ _ _ h.res]; rfl
theorem jy:(Tryz.prog.info? 45).map (·.size)=o_ 4:=by kernel_rfl
theorem op_any (r:Nat) (a:Option d_) (len cap:Nat) (w:w_) (hl:len≤1048576) (h:Rd r a len cap w):
  k_ J3 116 #[p_ (o_ ⟨r,0,n_⟩)] w fun e w'=> ∃ o:dN,o.2.2.2.size≤3∧e=r_ (a_ #[i_ j_ o.1,i_ j_ o.2.1,i_ j_ o.2.2.1,t_ o.2.2.2])∧gG r w w'∧Rd r a len cap w':=by
 have HS:Hid (Rd r a len cap w):=h;have rl:=h.lt;clear h
 go_enter func116,ntmps116
 go_wp2_with fail;refine (dh r a len cap 17 _ hl (by omega) (by omega) (HS.I.below ((Kp _ _).alloc (Ki _) _))).mono ?_;rintro e w1 ⟨v,v0,v1,rfl,hb1,hr1⟩;have hres:w1.heap[w.heap.size]? =o_ (c_ #[i_ j_ 0,i_ j_ 0,i_ j_ 0,t_ ⟨#[]⟩] 45):=(hb1.block _ (by simp) (by omega)).trans (Kj _ _);have pG:Hid (w1.heap[w.heap.size]? =o_ (c_ #[i_ j_ 0,i_ j_ 0,i_ j_ 0,t_ ⟨#[]⟩] 45)∧gG r w w1):=⟨hres,((gG.refl _ _).alloc _).trans hb1⟩
 clear hb1 hres;obtain ⟨k,hk⟩: ∃ k:Int,k=1+v:=⟨_,rfl⟩
 have e1:IntKind.i64.wrap (1+v)=k:=by rw [K8,hk]; omega
 have k0:1≤k:=by omega
 have k1:k≤17:=by omega
 have e2:IntKind.i64.wrap k=k:=by rw [K8]; omega
 have e3:wrap64 k=k:=by unfold wrap64; omega
 clear hk;go_wp2_with fail;refine (dh r a len cap 2 _ hl (by omega) (by omega) hr1).mono ?_;rintro e w2 ⟨u,u0,u1,rfl,hb2,hr2⟩;obtain ⟨n,hn⟩: ∃ n:Int,n=1+u:=⟨_,rfl⟩
 have f1:IntKind.i64.wrap (1+u)=n:=by rw [K8,hn]; omega
 have f2:IntKind.i64.wrap n=n:=by rw [K8]; omega
 have f3:wrap64 n=n:=by unfold wrap64; omega
 have H2:Hid (∀ n:Int,fO r a len cap w (w2.alloc (c_ #[i_ j_ k,i_ j_ n,i_ j_ 0,t_ ⟨#[]⟩] 45)) w2.heap.size k n 0 ⟨#[]⟩):=fun n=>by
  have l1:w.heap.size < w1.heap.size:=(J2.1 pG.I.1).1;have r2:w2.heap[w.heap.size]? =o_ (c_ #[i_ j_ 0,i_ j_ 0,i_ j_ 0,t_ ⟨#[]⟩] 45):=(hb2.block _ l1 (by omega)).trans pG.I.1;have l2:w.heap.size < w2.heap.size:=(J2.1 r2).1;exact ⟨(PU l2).trans r2,Kj _ _,(pG.I.2.trans hb2).alloc _,hr2.below ((Kp _ _).alloc (Ki _) _),HS.I,l2⟩
 clear hn hb2 hr2 hr1 pG;obtain ⟨q,hq⟩: ∃ q,w2.heap.size=q:=⟨_,rfl⟩
 rw [hq] at H2;by_cases c1:k=1∨k=2
 ·rcases c1 with rfl | rfl
  all_goals
   go_wp2_with fail;rw [hq] at *;have H3:=H2.I n;generalize w2.alloc (c_ #[i_ j_ _,i_ j_ n,i_ j_ 0,t_ ⟨#[]⟩] 45)=X at *;have uL:Hid (fO r a len cap w X q _ n 0 ⟨#[]⟩):=H3;clear H3;refine (dh r a len cap 5 _ hl (by omega) (by omega) uL.I.rd).mono ?_;rintro e w3 ⟨b,b0,b1,rfl,hb3,hr3⟩;obtain ⟨n2,hn2⟩: ∃ n2:Int,n2=1+b:=⟨_,rfl⟩
   have g1:IntKind.i64.wrap (1+b)=n2:=by rw [K8,hn2]; omega
   have g2:IntKind.i64.wrap n2=n2:=by rw [K8]; omega
   have g3:wrap64 n2=n2:=by unfold wrap64; omega
   have H4:Hid (fO r a len cap w w3 q _ n 0 ⟨#[]⟩):=uL.I.move hb3 hr3;have H5:Hid (fO r a len cap w (w3.setCell ⟨q,1,n_⟩ (i_ j_ n2)) q _ n2 0 ⟨#[]⟩):=H4.I.set rfl;clear hn2 hb3 hr3 uL;obtain ⟨⟨o0,o1,o2,o3⟩,⟨r0,r1,r2,r3⟩,fD,fB⟩:=H4.I.cells;have q0:=fD 0;have q1:=fD 1;have q2:=fD 2;have q3:=fD 3;have y0:=fB 0;have y1:=fB 1;have y2:=fB 2;have y3:=fB 3;have hlt:=H4.I.lt;have hne:w.heap.size≠q:=by omega
   have mD:q≠w.heap.size:=by omega
   clear fD fB;go_wp2_with fail;clear o0 o1 o2 o3 r0 r1 r2 r3 q0 q1 q2 q3 y0 y1 y2 y3 hlt hne mD;refine (jt r a len cap 60 _ hl (by omega) (by omega) H5.I.rd).mono ?_;rintro e w8 ⟨bb,rfl,Aq,BM⟩;have H8:Hid (fO r a len cap w w8 q _ n2 0 ⟨#[]⟩):=H5.I.move Aq BM;clear Aq BM H5;cases bb with
   | false=>
    obtain ⟨⟨o0,o1,o2,o3⟩,⟨r0,r1,r2,r3⟩,fD,fB⟩:=H8.I.cells;have q0:=fD 0;have q1:=fD 1;have q2:=fD 2;have q3:=fD 3;have y0:=fB 0;have y1:=fB 1;have y2:=fB 2;have y3:=fB 3;have hlt:=H8.I.lt;have hne:w.heap.size≠q:=by omega
    have mD:q≠w.heap.size:=by omega
    clear fD fB;go_wp2;refine KT (K9 results116 _ _ w.heap.size 45 _ (0,0) _ (by rfl) H8.I.ends.1 underlying45 rfl jy) rfl ?_;exact ⟨(_,n2,0,⟨#[]⟩),Ky _,rfl,H8.I.ends.2.1,H8.I.ends.2.2⟩
   | true=>
    go_wp2_with fail;refine (pj r a len cap (-1) 9 _ hl (by omega) (by omega) (by omega) H8.I.rd).mono ?_;rintro e w9 ⟨VX,rfl,kN,zT⟩;have YU:Hid (fO r a len cap w w9 q _ n2 0 ⟨#[]⟩):=H8.I.move kN zT;have HA:Hid (fO r a len cap w (w9.setCell ⟨q,2,n_⟩ (i_ j_ VX)) q _ n2 VX ⟨#[]⟩):=YU.I.set rfl;clear kN zT H8;obtain ⟨⟨o0,o1,o2,o3⟩,⟨r0,r1,r2,r3⟩,fD,fB⟩:=YU.I.cells;have q0:=fD 0;have q1:=fD 1;have q2:=fD 2;have q3:=fD 3;have y0:=fB 0;have y1:=fB 1;have y2:=fB 2;have y3:=fB 3;have hlt:=YU.I.lt;have hne:w.heap.size≠q:=by omega
    have mD:q≠w.heap.size:=by omega
    clear fD fB;go_wp2;refine KT (K9 results116 _ _ w.heap.size 45 _ (0,0) _ (by rfl) HA.I.ends.1 underlying45 rfl jy) rfl ?_;exact ⟨(_,n2,VX,⟨#[]⟩),Ky _,rfl,HA.I.ends.2.1,HA.I.ends.2.2⟩
 by_cases c2:k=3∨k=7∨k=9∨k=12
 ·rcases c2 with rfl | rfl | rfl | rfl
  all_goals
   go_wp2_with fail;rw [hq] at *;have H3:=H2.I n;generalize w2.alloc (c_ #[i_ j_ _,i_ j_ n,i_ j_ 0,t_ ⟨#[]⟩] 45)=X at *;have uL:Hid (fO r a len cap w X q _ n 0 ⟨#[]⟩):=H3;clear H3;refine (ajJ r a len cap _ hl uL.I.rd).mono ?_;rintro e w3 ⟨b,rfl,hb3,hr3⟩;have H4:Hid (fO r a len cap w w3 q _ n 0 ⟨#[]⟩):=uL.I.move hb3 hr3;have H5:Hid (fO r a len cap w (w3.setCell ⟨q,2,n_⟩ (i_ j_ b)) q _ n b ⟨#[]⟩):=H4.I.set rfl;clear hb3 hr3 uL;obtain ⟨⟨o0,o1,o2,o3⟩,⟨r0,r1,r2,r3⟩,fD,fB⟩:=H4.I.cells;have q0:=fD 0;have q1:=fD 1;have q2:=fD 2;have q3:=fD 3;have y0:=fB 0;have y1:=fB 1;have y2:=fB 2;have y3:=fB 3;have hlt:=H4.I.lt;have hne:w.heap.size≠q:=by omega
   have mD:q≠w.heap.size:=by omega
   clear fD fB;go_wp2_with fail;clear o0 o1 o2 o3 r0 r1 r2 r3 q0 q1 q2 q3 y0 y1 y2 y3 hlt hne mD;refine (jt r a len cap 60 _ hl (by omega) (by omega) H5.I.rd).mono ?_;rintro e w8 ⟨bb,rfl,Aq,BM⟩;have H8:Hid (fO r a len cap w w8 q _ n b ⟨#[]⟩):=H5.I.move Aq BM;clear Aq BM H5;cases bb with
   | false=>
    obtain ⟨⟨o0,o1,o2,o3⟩,⟨r0,r1,r2,r3⟩,fD,fB⟩:=H8.I.cells;have q0:=fD 0;have q1:=fD 1;have q2:=fD 2;have q3:=fD 3;have y0:=fB 0;have y1:=fB 1;have y2:=fB 2;have y3:=fB 3;have hlt:=H8.I.lt;have hne:w.heap.size≠q:=by omega
    have mD:q≠w.heap.size:=by omega
    clear fD fB;go_wp2;refine KT (K9 results116 _ _ w.heap.size 45 _ (0,0) _ (by rfl) H8.I.ends.1 underlying45 rfl jy) rfl ?_;exact ⟨(_,n,b,⟨#[]⟩),Ky _,rfl,H8.I.ends.2.1,H8.I.ends.2.2⟩
   | true=>
    go_wp2_with fail;refine (pj r a len cap (-1) 9 _ hl (by omega) (by omega) (by omega) H8.I.rd).mono ?_;rintro e w9 ⟨VX,rfl,kN,zT⟩;have YU:Hid (fO r a len cap w w9 q _ n b ⟨#[]⟩):=H8.I.move kN zT;exact ww
 by_cases c3:k=8
 ·subst c3
  go_wp2_with fail;rw [hq] at *;have H3:=H2.I n;generalize w2.alloc (c_ #[i_ j_ _,i_ j_ n,i_ j_ 0,t_ ⟨#[]⟩] 45)=X at *;have uL:Hid (fO r a len cap w X q _ n 0 ⟨#[]⟩):=H3;clear H3;refine (ajJ r a len cap _ hl uL.I.rd).mono ?_;rintro e w3 ⟨b,rfl,hb3,hr3⟩;have H4:Hid (fO r a len cap w w3 q _ n 0 ⟨#[]⟩):=uL.I.move hb3 hr3;have H5:Hid (fO r a len cap w (w3.setCell ⟨q,2,n_⟩ (i_ j_ b)) q _ n b ⟨#[]⟩):=H4.I.set rfl;clear hb3 hr3 uL;obtain ⟨⟨o0,o1,o2,o3⟩,⟨r0,r1,r2,r3⟩,fD,fB⟩:=H4.I.cells;have q0:=fD 0;have q1:=fD 1;have q2:=fD 2;have q3:=fD 3;have y0:=fB 0;have y1:=fB 1;have y2:=fB 2;have y3:=fB 3;have hlt:=H4.I.lt;have hne:w.heap.size≠q:=by omega
  have mD:q≠w.heap.size:=by omega
  clear fD fB;go_wp2_with fail;clear o0 o1 o2 o3 r0 r1 r2 r3 q0 q1 q2 q3 y0 y1 y2 y3 hlt hne mD;generalize w3.setCell ⟨q,2,n_⟩ (i_ j_ b)=X3 at *;refine (B0 r a len cap _ hl H5.I.rd).mono ?_;rintro e w4 ⟨tx,htx,rfl,hb4,hr4⟩;have H6:Hid (fO r a len cap w w4 q _ n b ⟨#[]⟩):=H5.I.move hb4 hr4;have H7:Hid (fO r a len cap w (w4.setCell ⟨q,3,n_⟩ (t_ tx)) q _ n b tx):=H6.I.set rfl;clear hb4 hr4 H5;obtain ⟨⟨o0,o1,o2,o3⟩,⟨r0,r1,r2,r3⟩,fD,fB⟩:=H6.I.cells;have q0:=fD 0;have q1:=fD 1;have q2:=fD 2;have q3:=fD 3;have y0:=fB 0;have y1:=fB 1;have y2:=fB 2;have y3:=fB 3;have hlt:=H6.I.lt;have hne:w.heap.size≠q:=by omega
  have mD:q≠w.heap.size:=by omega
  clear fD fB;go_wp2_with fail;clear o0 o1 o2 o3 r0 r1 r2 r3 q0 q1 q2 q3 y0 y1 y2 y3 hlt hne mD;refine (jt r a len cap 60 _ hl (by omega) (by omega) H7.I.rd).mono ?_;rintro e w8 ⟨bb,rfl,Aq,BM⟩;have H8:Hid (fO r a len cap w w8 q _ n b tx):=H7.I.move Aq BM;clear Aq BM H7;cases bb with
  | false=>
   obtain ⟨⟨o0,o1,o2,o3⟩,⟨r0,r1,r2,r3⟩,fD,fB⟩:=H8.I.cells;have q0:=fD 0;have q1:=fD 1;have q2:=fD 2;have q3:=fD 3;have y0:=fB 0;have y1:=fB 1;have y2:=fB 2;have y3:=fB 3;have hlt:=H8.I.lt;have hne:w.heap.size≠q:=by omega
   have mD:q≠w.heap.size:=by omega
   clear fD fB;go_wp2;refine KT (K9 results116 _ _ w.heap.size 45 _ (0,0) _ (by rfl) H8.I.ends.1 underlying45 rfl jy) rfl ?_;exact ⟨(_,n,b,tx),htx,rfl,H8.I.ends.2.1,H8.I.ends.2.2⟩
  | true=>
   go_wp2_with fail;refine (pj r a len cap (-1) 9 _ hl (by omega) (by omega) (by omega) H8.I.rd).mono ?_;rintro e w9 ⟨VX,rfl,kN,zT⟩;have YU:Hid (fO r a len cap w w9 q _ n b tx):=H8.I.move kN zT;exact y5
 by_cases c4:k=10∨k=13
 ·rcases c4 with rfl | rfl
  all_goals
   go_wp2_with fail;rw [hq] at *;have H3:=H2.I n;generalize w2.alloc (c_ #[i_ j_ _,i_ j_ n,i_ j_ 0,t_ ⟨#[]⟩] 45)=X at *;have uL:Hid (fO r a len cap w X q _ n 0 ⟨#[]⟩):=H3;clear H3;refine (B0 r a len cap _ hl uL.I.rd).mono ?_;rintro e w4 ⟨tx,htx,rfl,hb4,hr4⟩;have H6:Hid (fO r a len cap w w4 q _ n 0 ⟨#[]⟩):=uL.I.move hb4 hr4;have H7:Hid (fO r a len cap w (w4.setCell ⟨q,3,n_⟩ (t_ tx)) q _ n 0 tx):=H6.I.set rfl;clear hb4 hr4 uL;obtain ⟨⟨o0,o1,o2,o3⟩,⟨r0,r1,r2,r3⟩,fD,fB⟩:=H6.I.cells;have q0:=fD 0;have q1:=fD 1;have q2:=fD 2;have q3:=fD 3;have y0:=fB 0;have y1:=fB 1;have y2:=fB 2;have y3:=fB 3;have hlt:=H6.I.lt;have hne:w.heap.size≠q:=by omega
   have mD:q≠w.heap.size:=by omega
   clear fD fB;go_wp2_with fail;clear o0 o1 o2 o3 r0 r1 r2 r3 q0 q1 q2 q3 y0 y1 y2 y3 hlt hne mD;refine (jt r a len cap 60 _ hl (by omega) (by omega) H7.I.rd).mono ?_;rintro e w8 ⟨bb,rfl,Aq,BM⟩;have H8:Hid (fO r a len cap w w8 q _ n 0 tx):=H7.I.move Aq BM;clear Aq BM H7;cases bb with
   | false=>
    obtain ⟨⟨o0,o1,o2,o3⟩,⟨r0,r1,r2,r3⟩,fD,fB⟩:=H8.I.cells;have q0:=fD 0;have q1:=fD 1;have q2:=fD 2;have q3:=fD 3;have y0:=fB 0;have y1:=fB 1;have y2:=fB 2;have y3:=fB 3;have hlt:=H8.I.lt;have hne:w.heap.size≠q:=by omega
    have mD:q≠w.heap.size:=by omega
    clear fD fB;go_wp2;refine KT (K9 results116 _ _ w.heap.size 45 _ (0,0) _ (by rfl) H8.I.ends.1 underlying45 rfl jy) rfl ?_;exact ⟨(_,n,0,tx),htx,rfl,H8.I.ends.2.1,H8.I.ends.2.2⟩
   | true=>
    go_wp2_with fail;refine (pj r a len cap (-1) 9 _ hl (by omega) (by omega) (by omega) H8.I.rd).mono ?_;rintro e w9 ⟨VX,rfl,kN,zT⟩;have YU:Hid (fO r a len cap w w9 q _ n 0 tx):=H8.I.move kN zT;exact y5
 by_cases c5:k=17
 ·subst c5
  go_wp2_with fail;rw [hq] at *;have H3:=H2.I 0;generalize w2.alloc (c_ #[i_ j_ _,i_ j_ 0,i_ j_ 0,t_ ⟨#[]⟩] 45)=X at *;have uL:Hid (fO r a len cap w X q _ 0 0 ⟨#[]⟩):=H3;clear H3;refine (jt r a len cap 60 _ hl (by omega) (by omega) uL.I.rd).mono ?_;rintro e w8 ⟨bb,rfl,Aq,BM⟩;have H8:Hid (fO r a len cap w w8 q _ 0 0 ⟨#[]⟩):=uL.I.move Aq BM;clear Aq BM uL;cases bb with
  | false=>
   obtain ⟨⟨o0,o1,o2,o3⟩,⟨r0,r1,r2,r3⟩,fD,fB⟩:=H8.I.cells;have q0:=fD 0;have q1:=fD 1;have q2:=fD 2;have q3:=fD 3;have y0:=fB 0;have y1:=fB 1;have y2:=fB 2;have y3:=fB 3;have hlt:=H8.I.lt;have hne:w.heap.size≠q:=by omega
   have mD:q≠w.heap.size:=by omega
   clear fD fB;go_wp2;refine KT (K9 results116 _ _ w.heap.size 45 _ (0,0) _ (by rfl) H8.I.ends.1 underlying45 rfl jy) rfl ?_;exact ⟨(_,0,0,⟨#[]⟩),Ky _,rfl,H8.I.ends.2.1,H8.I.ends.2.2⟩
  | true=>
   go_wp2_with fail;refine (pj r a len cap (-1) 9 _ hl (by omega) (by omega) (by omega) H8.I.rd).mono ?_;rintro e w9 ⟨VX,rfl,kN,zT⟩;have YU:Hid (fO r a len cap w w9 q _ 0 0 ⟨#[]⟩):=H8.I.move kN zT;have HA:Hid (fO r a len cap w (w9.setCell ⟨q,2,n_⟩ (i_ j_ VX)) q _ 0 VX ⟨#[]⟩):=YU.I.set rfl;clear kN zT H8;obtain ⟨⟨o0,o1,o2,o3⟩,⟨r0,r1,r2,r3⟩,fD,fB⟩:=YU.I.cells;have q0:=fD 0;have q1:=fD 1;have q2:=fD 2;have q3:=fD 3;have y0:=fB 0;have y1:=fB 1;have y2:=fB 2;have y3:=fB 3;have hlt:=YU.I.lt;have hne:w.heap.size≠q:=by omega
   have mD:q≠w.heap.size:=by omega
   clear fD fB;go_wp2;refine KT (K9 results116 _ _ w.heap.size 45 _ (0,0) _ (by rfl) HA.I.ends.1 underlying45 rfl jy) rfl ?_;exact ⟨(_,0,VX,⟨#[]⟩),Ky _,rfl,HA.I.ends.2.1,HA.I.ends.2.2⟩
 have d1:(k == 1)=false:=by simp; omega
 have d2:(k == 2)=false:=by simp; omega
 have d3:(k == 3)=false:=by simp; omega
 have d7:(k == 7)=false:=by simp; omega
 have d9:(k == 9)=false:=by simp; omega
 have d12:(k == 12)=false:=by simp; omega
 have d8:(k == 8)=false:=by simp; omega
 have tH:(k == 10)=false:=by simp; omega
 have d13:(k == 13)=false:=by simp; omega
 have d17:(k == 17)=false:=by simp; omega
 clear c1 c2 c3 c4 c5;go_wp2_with fail;rw [hq] at *;have H3:=H2.I n;generalize w2.alloc (c_ #[i_ j_ _,i_ j_ n,i_ j_ 0,t_ ⟨#[]⟩] 45)=X at *;have uL:Hid (fO r a len cap w X q _ n 0 ⟨#[]⟩):=H3;clear H3;refine (jt r a len cap 60 _ hl (by omega) (by omega) uL.I.rd).mono ?_;rintro e w8 ⟨bb,rfl,Aq,BM⟩;have H8:Hid (fO r a len cap w w8 q _ n 0 ⟨#[]⟩):=uL.I.move Aq BM;clear Aq BM uL;cases bb with
 | false=>
  obtain ⟨⟨o0,o1,o2,o3⟩,⟨r0,r1,r2,r3⟩,fD,fB⟩:=H8.I.cells;have q0:=fD 0;have q1:=fD 1;have q2:=fD 2;have q3:=fD 3;have y0:=fB 0;have y1:=fB 1;have y2:=fB 2;have y3:=fB 3;have hlt:=H8.I.lt;have hne:w.heap.size≠q:=by omega
  have mD:q≠w.heap.size:=by omega
  clear fD fB;go_wp2;refine KT (K9 results116 _ _ w.heap.size 45 _ (0,0) _ (by rfl) H8.I.ends.1 underlying45 rfl jy) rfl ?_;exact ⟨(_,n,0,⟨#[]⟩),Ky _,rfl,H8.I.ends.2.1,H8.I.ends.2.2⟩
 | true=>
  go_wp2_with fail;refine (pj r a len cap (-1) 9 _ hl (by omega) (by omega) (by omega) H8.I.rd).mono ?_;rintro e w9 ⟨VX,rfl,kN,zT⟩;have YU:Hid (fO r a len cap w w9 q _ n 0 ⟨#[]⟩):=H8.I.move kN zT;exact ww
end
section
open Go.RowKit Go.Maps
def od (v:Value):Option (DataW Unit × List MemPlace):=match v with
 | .pointer (some ⟨g,0,none⟩)=>some (.lit (.int .i64 g),[])
 | _=>none
def dt (g:Nat):Value:= .pointer (some ⟨g,0,none⟩)
def qz:Option Nat→Value
 | none=> .pointer none
 | some g=>dt g
theorem Ie (g:Nat):od (dt g)=some (.lit (.int .i64 g),[]):=rfl
theorem oI {v:Value} {z:DataW Unit × List MemPlace} (h:od v=some z): ∃ g:Nat,v=dt g∧z=(.lit (.int .i64 g),[]):=by
 unfold od at h
 split at h
 ·rename_i g
  cases h;exact ⟨g,rfl,rfl⟩
 ·cases h
abbrev df:=List (Int × Nat)
def nM (p:Int × Nat):Lit × DataW Unit:=(.int .i64 p.1,.lit (.int .i64 p.2))
def gA (m:df):DataW Unit:= .map (m.map nM)
def zP (m:df):Prop:=m.Pairwise (fun p q=>p.1 < q.1)
def cz (m:df) (k:Int):Option Nat:=(m.find? (fun p=>p.1 == k)).map (·.2)
def oK (p:Int × Nat):df→df
 | [] => [p]
 | y :: r=>if p.1 < y.1 then p :: y :: r else y :: oK p r
def cF (w:World) (b:Nat) (m:df):Prop:=w.ownsMap J3 2 od b m.length (gA m)∧zP m
theorem jb:Keyed J3 2:=int_keyed KN
theorem vX {k:Int} (hk:(Lit.int .i64 k).wf=true):keyOf J3 2 (.int .i64 k)=some (.int .i64 k):=keyOf_int_mk KN hk
theorem kH (a b:Int):(Lit.int .i64 a).sameKey (.int .i64 b)=(a == b):=by
 simp [Lit.sameKey];by_cases h:a=b <;> simp [h]
theorem GF (m:df) (k:Int):(m.map nM).find? (fun p=>p.1.sameKey (.int .i64 k))=(m.find? (fun p=>p.1 == k)).map nM:=by
 induction m with
 | nil=>rfl
 | cons p r ih=>
  simp only [Lt,LL];have e:(nM p).1.sameKey (.int .i64 k)=(p.1 == k):=kH _ _;rw [e];cases (p.1 == k)
  ·exact ih
  ·rfl
theorem pk (m:df) (k:Int) (z:DataW Unit):(gA m).atKey (.int .i64 k) z=match cz m k with | some g=> .lit (.int .i64 g) | none=>z:=by
 simp only [gA,DataW.atKey,GF];unfold cz;cases m.find? (fun p=>p.1 == k) <;> rfl
theorem size_map (m:df):Maps.size (gA m)=m.length:=by simp [Maps.size,gA]
section
variable {w w':World} {b:Nat} {m:df}
theorem cF.lt (h:cF w b m):b < w.heap.size:=h.1.lt
theorem cF.same (h:cF w b m) (hs:w'.heap[b]? =w.heap[b]?):cF w' b m:=by
 obtain ⟨⟨es,clock,hb,r⟩,h2⟩:=h;exact ⟨⟨es,clock,hs.trans hb,r⟩,h2⟩
theorem cF.below (h:cF w b m) (hb:Below w.heap.size w w'):cF w' b m:=h.same (hb.block b h.lt)
theorem cF.made (w:World):cF (w.alloc (.map #[] 0)) w.heap.size [] :=⟨World.ownsMap_made w J3 2 od,List.Pairwise.nil⟩
theorem cF.Hh (hb:w.heap[b]? =some (.map #[] 0)):cF w b [] :=⟨⟨#[],0,hb,⟨by simp,MapKept.stamped_empty 0,by simp⟩,by simp,rfl⟩,List.Pairwise.nil⟩
theorem cF.look (h:cF w b m) {t e:TypeId} (ht:Tryz.prog.underlying t=some (.map 2 e)) (hz:(zeroValue e).run J3 w= .ok (.pointer none) w) {k:Int} (hk:(Lit.int .i64 k).wf=true) (c:Bool):
  (Instr.lookup t (.map (some b)) (.int .i64 k) c).run J3 w= .ok (if c then .tuple #[qz (cz m k),.bool (cz m k).isSome] else qz (cz m k)) w:=by
 obtain ⟨⟨es,clock,hb,F,_,hD⟩,_⟩:=h;rcases Maps.fit_look c jb ht hz hb F (vX hk) with ⟨hrun,_,hat⟩ | ⟨e0,y,_,_,hrun,hRv,hat,_⟩
 ·have h1:=hat .nil
  rw [← hD,pk] at h1;have h2:=hat (.lit (.bool true));rw [← hD,pk] at h2;cases hl:cz m k with
  | none=>exact hrun
  | some g=>rw [hl] at h1; cases h1
 ·obtain ⟨g,hv,rfl⟩:=oI hRv
  have h1:=hat .nil;rw [← hD,pk] at h1;cases hl:cz m k with
  | none=>rw [hl] at h1; cases h1
  | some g'=>
   rw [hl] at h1;simp only [QZ,Lit.int.injEq,Int.natCast_inj,true_and] at h1;rw [hrun,hv,h1];cases c <;> rfl
theorem cF.len (h:cF w b m) {t e:TypeId} (ht:Tryz.prog.underlying t=some (.map 2 e)) (ty:TypeId):(Builtin.len_ #[t] ty #[.map (some b)]).run J3 w= .ok (.int .i64 (m.length:Int)) w:=by
 have:=h.1.len ht ty
 rwa [size_map] at this
theorem Bo (p:Int × Nat) (m:df):(oK p m).length=m.length+1:=by
 induction m with
 | nil=>rfl
 | cons y r ih=>
  unfold oK
  split
  ·rfl
  ·simp [ih]
theorem Gw {p q:Int × Nat} {m:df} :q∈oK p m↔q=p∨q∈m:=by
 induction m with
 | nil=>simp [oK]
 | cons y r ih=>
  unfold oK
  split
  ·simp
  ·simp only [Kt,ih]
   constructor
   ·exact Q3
   ·exact Q3
theorem DD {p:Int × Nat} {m:df} (h:zP m) (hn:cz m p.1=none):zP (oK p m):=by
 induction m with
 | nil=>exact List.pairwise_singleton _ _
 | cons y r ih=>
  obtain ⟨h1,h2⟩:=LM.1 h;have hy: ¬ y.1=p.1:=by
   intro e;simp [cz,e] at hn
  have hn':cz r p.1=none:=by
   unfold cz at hn ⊢;rw [LL] at hn
   have:(y.1 == p.1)=false:=by simp [hy]
   rw [this] at hn;exact hn
  unfold oK
  split
  ·rename_i hlt
   refine LM.2 ⟨fun q hq=> ?_,h⟩;rcases Kt.1 hq with rfl | hq
   ·exact hlt
   ·exact Int.lt_trans hlt (h1 q hq)
  ·rename_i hge
   refine LM.2 ⟨fun q hq=> ?_,ih h2 hn'⟩;rcases Gw.1 hq with rfl | hq
   ·omega
   ·exact h1 q hq
theorem It {m:df} {k:Int} {g:Nat} (hn:cz m k=none):(gA m).put (.int .i64 k) (.lit (.int .i64 g))=gA (oK (k,g) m):=by
 have hf:(m.map nM).filter (fun p=> !p.1.sameKey (.int .i64 k))=m.map nM:=by
  refine List.filter_eq_self.2 (fun p hp=> ?_);obtain ⟨q,hq,rfl⟩:=Lr.1 hp;have e:(nM q).1.sameKey (.int .i64 k)=(q.1 == k):=kH _ _;rw [e]
  have:m.find? (fun p=>p.1 == k)=none:=by simpa [cz] using hn
  have:=List.find?_eq_none.1 this q hq
  simpa using this
 show DataW.map (DataW.insert _ ((m.map nM).filter _))=_
 rw [hf]
 show DataW.map (DataW.insert (nM (k,g)) (m.map nM))= .map ((oK (k,g) m).map nM)
 congr 1
 induction m with
 | nil=>rfl
 | cons y r ih=>
  unfold oK;simp only [Lt,DataW.insert];have e:(nM (k,g)).1.before (nM y).1=decide (k < y.1):=rfl;rw [e];by_cases hlt:k < y.1
  ·simp [hlt]
  ·have hn':cz r k=none:=by
    unfold cz at hn ⊢;rw [LL] at hn
    split at hn
    ·cases hn
    ·exact hn
   have hf':(r.map nM).filter (fun p=> !p.1.sameKey (.int .i64 k))=r.map nM:=by
    simp only [Lt,List.filter_cons] at hf
    split at hf
    ·exact (List.cons.inj hf).2
    ·have:=congrArg List.length hf
     have h2:=List.length_filter_le (fun p:Lit × DataW Unit=> !p.1.sameKey (.int .i64 k)) (r.map nM);simp only [Lg] at this;omega
   simp only [hlt,decide_false,J5,if_false];rw [ih hn' hf'];simp
theorem cF.put (h:cF w b m) {t e:TypeId} (ht:Tryz.prog.underlying t=some (.map 2 e)) {k:Int} (hk:(Lit.int .i64 k).wf=true) (g:Nat) (hn:cz m k=none) (hm:m.length≤1048576):
  ∃ w',(Instr.mapUpdate t (.map (some b)) (.int .i64 k) (dt g)).run J3 w= .ok () w'∧cF w' b (oK (k,g) m)∧w.mapTurned w' b:=by
 obtain ⟨w',hrun,ho,ht'⟩:=h.1.store jb ht (Nat.lt_of_le_of_lt hm (by decide)) (vX hk) (Ie g);refine ⟨w',hrun,⟨?_,DD h.2 hn⟩,ht'⟩;rw [It hn] at ho
 rwa [Bo]
end
theorem qA {m:df} {k:Int} :cz m k=none↔k∉m.map (·.1):=by
 unfold cz;rw [Option.map_eq_none_iff,List.find?_eq_none];constructor
 ·intro h hm
  obtain ⟨p,hp,e⟩:=Lr.1 hm;exact h p hp (by simp [e])
 ·intro h p hp e
  exact h (Lr.2 ⟨p,hp,by simpa using e⟩)
theorem ry (m:df) (k:Int):(cz m k).isSome=decide (k∈m.map (·.1)):=by
 by_cases h:k∈m.map (·.1)
 ·rw [decide_eq_true h]
  cases hl:cz m k with
  | none=>exact absurd h (qA.1 hl)
  | some g=>rfl
 ·rw [decide_eq_false h,qA.2 h]
  rfl
theorem jI {m:df} (hr:zP m) {p:Int × Nat} (hp:p∈m):cz m p.1=some p.2:=by
 induction m with
 | nil=>cases hp
 | cons y r ih=>
  obtain ⟨h1,h2⟩:=LM.1 hr;rcases Kt.1 hp with rfl | hp
  ·simp [cz]
  ·have:=h1 p hp
   have hne:(y.1 == p.1)=false:=by
    have: ¬ y.1=p.1:=by omega
    simp [this]
   have:=ih h2 hp
   unfold cz at this ⊢;rw [LL,hne];exact this
theorem yu {m:df} {k:Int} {g:Nat} (h:cz m k=some g):(k,g)∈m:=by
 unfold cz at h;obtain ⟨p,hp,e⟩:=Kw.1 h;have h1:=List.mem_of_find?_eq_some hp;have h2:=List.find?_some hp;simp at h2;rw [← h2,← e];exact h1
end
section
open Go.RowKit
def Cd (os:List dN) (i:Nat):Int:=(os[i]?.getD (0,0,0,⟨#[]⟩)).1
def Cg (os:List dN) (i:Nat):Int:=(os[i]?.getD (0,0,0,⟨#[]⟩)).2.1
def Ea (os:List dN) (i:Nat):Int:=(os[i]?.getD (0,0,0,⟨#[]⟩)).2.2.1
def Ce (os:List dN) (i:Nat):ByteArray:=(os[i]?.getD (0,0,0,⟨#[]⟩)).2.2.2
def y9 (w:w_) (g:Nat) (os:List dN):Prop:=iG w g os.length (Cd os) (Cg os) (Ea os) (Ce os)
def xu (w:w_) (a:Option d_) (os:List dN):Prop:=0 < os.length→ ∃ g,a=o_ ⟨g,0,n_⟩∧y9 w g os
theorem xu.below {w w':w_} {a:Option d_} {os:List dN} (h:xu w a os) (hb:B_ w.heap.size w w'):xu w' a os:=fun hl=>by
 obtain ⟨g,rfl,hw⟩:=h hl;exact ⟨g,rfl,iG.below hw hb⟩
theorem xu.low {w w':w_} {a:Option d_} {base:Nat} {os:List dN} (h:xu w a os) (ha: ∀ q,a=o_ q→q.block < base) (hb:B_ base w w'):xu w' a os:=fun hl=>by
 obtain ⟨g,rfl,hw⟩:=h hl;exact ⟨g,rfl,iG.of_block hw (hb.block g (ha _ rfl))⟩
end
section
open Go.RowKit
attribute [local go_sem ↓] Kc Kd
theorem cQ {w w1:w_} {cs:Array v_} {t:T_} (h:B_ (w.alloc (c_ cs t)).heap.size (w.alloc (c_ cs t)) w1) (i:Nat):w1.cell? ⟨w.heap.size,i,n_⟩=cs[i]? :=
  (h.cell (p:=⟨w.heap.size,i,n_⟩) (by simp)).trans (by simp)
theorem ev {B:Nat} {w w':w_} (h:B_ B w.drew w'):B_ B w w':=⟨h.os,h.tape,h.output,h.size,h.block⟩
theorem bd {B:Nat} {w w':w_} (h:B_ B w w') (n:Nat):B_ B w (w'.drewN n):=⟨h.os,h.tape,h.output,h.size,h.block⟩
theorem dQ {w w1 w2:w_} {k n m:Int} {s:ByteArray} (HB:Hid (B_ w.heap.size w w1)) (HS:Hid (w.heap.size < w1.heap.size)) (c0:w1.cell? ⟨w.heap.size,0,n_⟩=o_ (i_ j_ k)) (c1:w1.cell? ⟨w.heap.size,1,n_⟩=o_ (i_ j_ n)) (c2:w1.cell? ⟨w.heap.size,2,n_⟩=o_ (i_ j_ m)) (c3:w1.cell? ⟨w.heap.size,3,n_⟩=o_ (t_ s)) (hb:B_ w1.heap.size w1 w2):
    Hid (B_ w.heap.size w w2)∧Hid (w.heap.size < w2.heap.size)∧w2.cell? ⟨w.heap.size,0,n_⟩=o_ (i_ j_ k)∧w2.cell? ⟨w.heap.size,1,n_⟩=o_ (i_ j_ n)∧w2.cell? ⟨w.heap.size,2,n_⟩=o_ (i_ j_ m)∧w2.cell? ⟨w.heap.size,3,n_⟩=o_ (t_ s):=
  ⟨HB.I.trans (hb.mono (Nat.le_of_lt HS.I)),Kn HS.I hb.size,(hb.cell (p:=⟨w.heap.size,0,n_⟩) HS.I).trans c0,(hb.cell (p:=⟨w.heap.size,1,n_⟩) HS.I).trans c1,(hb.cell (p:=⟨w.heap.size,2,n_⟩) HS.I).trans c2,(hb.cell (p:=⟨w.heap.size,3,n_⟩) HS.I).trans c3⟩
theorem IF {k n m:Int} {s:ByteArray} (h:pJ k):mQ k n m s=(cv n 1 1000 && decide (m=0) && bI s):=by
  unfold pJ at h;unfold mQ;rw [if_pos h]
theorem Gv {k n m:Int} {s:ByteArray} (h:mF k):mQ k n m s=(cv n 1 1000 && cv m (-1) 1000 && bI s):=by
  unfold mF at h;unfold mQ;rw [if_neg (by omega),if_pos h]
theorem He {k n m:Int} {s:ByteArray} (h:k=8):mQ k n m s=(cv n 1 1000 && cv m (-1) 1000 && bw s):=by
  unfold mQ;rw [if_neg (by omega),if_neg (by omega),if_pos h]
theorem F1 {k n m:Int} {s:ByteArray} (h:isText k):mQ k n m s=(cv n 1 1000 && decide (m=0) && bw s):=by
  unfold isText at h;unfold mQ;rw [if_neg (by omega),if_neg (by omega),if_neg (by omega),if_pos h]
theorem Gm {k n m:Int} {s:ByteArray} (h:k=17):mQ k n m s=(decide (n=0) && decide (m=0) && bI s):=by
  unfold mQ;rw [if_neg (by omega),if_neg (by omega),if_neg (by omega),if_neg (by omega),if_pos h]
theorem Du (k n m:Int) (s:ByteArray) (w:w_) (hk:pJ k):
    k_ J3 240 #[a_ #[i_ j_ k,i_ j_ n,i_ j_ m,t_ s]] w fun e w'=>e=r_ (b_ (mQ k n m s))∧B_ w.heap.size w w':=by
  have HO:Hid (mQ k n m s=(cv n 1 1000 && decide (m=0) && bI s)):=IF hk;have HK:Hid (pJ k):=hk;clear hk
  go_enter func240,ntmps240
  go_wp2_with fail;refine (DB k n m s _ HK.I).mono ?_;rintro e w1 ⟨rfl,hb1⟩;have c0:w1.cell? ⟨w.heap.size,0,n_⟩=o_ (i_ j_ k):=cQ hb1 0;have c1:w1.cell? ⟨w.heap.size,1,n_⟩=o_ (i_ j_ n):=cQ hb1 1;have c2:w1.cell? ⟨w.heap.size,2,n_⟩=o_ (i_ j_ m):=cQ hb1 2;have c3:w1.cell? ⟨w.heap.size,3,n_⟩=o_ (t_ s):=cQ hb1 3;have fQ:Hid (B_ w.heap.size w w1):=((Kp _ _).alloc (Ki _) _).trans (hb1.mono (by simp));have mH:Hid (w.heap.size < w1.heap.size):=by have:=hb1.size; simp only [RR] at this; exact this
  clear hb1;by_cases hm:m=0;rotate_left
  · have hm': ¬ 0=m:=fun h=>hm h.symm
    go_wp2_with fail
    first
      | (go_region_with
      ((first
        | (go_at_call 286
           refine (oJ _ _ _).mono ?_;rintro e w2 ⟨rfl,hb2⟩;obtain ⟨cy,mO,d0,d1,d2,d3⟩:=dQ fQ mH c0 c1 c2 c3 (ev hb2);clear hb2)
        | (go_at_call 244
           refine (mC _ _ _).mono ?_;rintro e w3 ⟨rfl,hb3⟩;obtain ⟨oh,-,f0,f1,f2,f3⟩:=dQ cy mO d0 d1 d2 d3 hb3;clear hb3))))
      | (exact absurd rfl Zde)
    all_goals go_wp2
    all_goals go_ret
    all_goals exact ⟨al (by rw [HO.I]; simp [hm]),cy.I⟩
  subst hm;by_cases hes:s.toList= []
  rotate_left
  · have hes': ¬ [] =s.toList:=fun h=>hes h.symm
    have hem:bI s=false:=by simp [bI,hes]
    go_wp2_with fail
    first
      | (go_region_with
      ((first
        | (go_at_call 286
           refine (oJ _ _ _).mono ?_;rintro e w2 ⟨rfl,hb2⟩;obtain ⟨cy,mO,d0,d1,d2,d3⟩:=dQ fQ mH c0 c1 c2 c3 (ev hb2);clear hb2)
        | (go_at_call 244
           refine (mC _ _ _).mono ?_;rintro e w3 ⟨rfl,hb3⟩;obtain ⟨oh,-,f0,f1,f2,f3⟩:=dQ cy mO d0 d1 d2 d3 hb3;clear hb3))))
      | (exact absurd rfl Zde)
    all_goals go_wp2
    all_goals go_ret
    all_goals exact ⟨al (by rw [HO.I]; simp [hem]),cy.I⟩
  have hem:bI s=true:=by simp [bI,hes]
  go_wp2_with fail
  first
    | (go_region_with
    ((first
      | (go_at_call 286
         refine (oJ _ _ _).mono ?_;rintro e w2 ⟨rfl,hb2⟩;obtain ⟨cy,mO,d0,d1,d2,d3⟩:=dQ fQ mH c0 c1 c2 c3 (ev hb2);clear hb2)
      | (go_at_call 244
         refine (mC _ _ _).mono ?_;rintro e w3 ⟨rfl,hb3⟩;obtain ⟨oh,-,f0,f1,f2,f3⟩:=dQ cy mO d0 d1 d2 d3 hb3;clear hb3))))
    | (exact absurd rfl Zde)
  all_goals go_wp2
  all_goals go_ret
  all_goals exact ⟨al ZdM,oh.I⟩
theorem AB (k n m:Int) (s:ByteArray) (w:w_) (hk:mF k):
    k_ J3 240 #[a_ #[i_ j_ k,i_ j_ n,i_ j_ m,t_ s]] w fun e w'=>e=r_ (b_ (mQ k n m s))∧B_ w.heap.size w w':=by
  have HO:Hid (mQ k n m s=(cv n 1 1000 && cv m (-1) 1000 && bI s)):=Gv hk;have HK:Hid (mF k):=hk;clear hk
  go_enter func240,ntmps240
  go_wp2_with fail;refine (AC k n m s _ HK.I).mono ?_;rintro e w1 ⟨rfl,hb1⟩;have c0:w1.cell? ⟨w.heap.size,0,n_⟩=o_ (i_ j_ k):=cQ hb1 0;have c1:w1.cell? ⟨w.heap.size,1,n_⟩=o_ (i_ j_ n):=cQ hb1 1;have c2:w1.cell? ⟨w.heap.size,2,n_⟩=o_ (i_ j_ m):=cQ hb1 2;have c3:w1.cell? ⟨w.heap.size,3,n_⟩=o_ (t_ s):=cQ hb1 3;have fQ:Hid (B_ w.heap.size w w1):=((Kp _ _).alloc (Ki _) _).trans (hb1.mono (by simp));have mH:Hid (w.heap.size < w1.heap.size):=by have:=hb1.size; simp only [RR] at this; exact this
  clear hb1;by_cases hes:s.toList= []
  rotate_left
  · have hes': ¬ [] =s.toList:=fun h=>hes h.symm
    have hem:bI s=false:=by simp [bI,hes]
    go_wp2_with fail
    first
      | (go_region_with
      ((first
        | (go_at_call 287
           refine (xk _ _ _ _).mono ?_;rintro e w2 ⟨rfl,hb2⟩;obtain ⟨cy,mO,d0,d1,d2,d3⟩:=dQ fQ mH c0 c1 c2 c3 (ev hb2);clear hb2)
        | (go_at_call 244
           refine (sH _ _ _ _).mono ?_;rintro e w3 ⟨rfl,hb3⟩;obtain ⟨oh,-,f0,f1,f2,f3⟩:=dQ cy mO d0 d1 d2 d3 hb3;clear hb3))))
      | (exact absurd rfl Zde)
    all_goals go_wp2
    all_goals go_ret
    all_goals exact ⟨al (by rw [HO.I]; simp [hem]),cy.I⟩
  have hem:bI s=true:=by simp [bI,hes]
  go_wp2_with fail
  first
    | (go_region_with
    ((first
      | (go_at_call 287
         refine (xk _ _ _ _).mono ?_;rintro e w2 ⟨rfl,hb2⟩;obtain ⟨cy,mO,d0,d1,d2,d3⟩:=dQ fQ mH c0 c1 c2 c3 (ev hb2);clear hb2)
      | (go_at_call 244
         refine (sH _ _ _ _).mono ?_;rintro e w3 ⟨rfl,hb3⟩;obtain ⟨oh,-,f0,f1,f2,f3⟩:=dQ cy mO d0 d1 d2 d3 hb3;clear hb3))))
    | (exact absurd rfl Zde)
  all_goals go_wp2
  all_goals go_ret
  all_goals exact ⟨al ZdM,oh.I⟩
theorem BY (k n m:Int) (s:ByteArray) (w:w_) (hs:s.size≤1048576) (hk:k=8):
    k_ J3 240 #[a_ #[i_ j_ k,i_ j_ n,i_ j_ m,t_ s]] w fun e w'=>e=r_ (b_ (mQ k n m s))∧B_ w.heap.size w w':=by
  have HO:Hid (mQ k n m s=(cv n 1 1000 && cv m (-1) 1000 && bw s)):=He hk;have HK:Hid (k=8):=hk;clear hk
  go_enter func240,ntmps240
  go_wp2_with fail;refine (AE k n m s _ HK.I).mono ?_;rintro e w1 ⟨rfl,hb1⟩;have c0:w1.cell? ⟨w.heap.size,0,n_⟩=o_ (i_ j_ k):=cQ hb1 0;have c1:w1.cell? ⟨w.heap.size,1,n_⟩=o_ (i_ j_ n):=cQ hb1 1;have c2:w1.cell? ⟨w.heap.size,2,n_⟩=o_ (i_ j_ m):=cQ hb1 2;have c3:w1.cell? ⟨w.heap.size,3,n_⟩=o_ (t_ s):=cQ hb1 3;have fQ:Hid (B_ w.heap.size w w1):=((Kp _ _).alloc (Ki _) _).trans (hb1.mono (by simp));have mH:Hid (w.heap.size < w1.heap.size):=by have:=hb1.size; simp only [RR] at this; exact this
  clear hb1;go_wp2_with fail
  first
    | (go_region_with
    ((first
      | (go_at_call 288
         refine (Fc _ _ _ _ _).mono ?_;rintro e w2 ⟨rfl,hb2⟩;obtain ⟨cy,mO,d0,d1,d2,d3⟩:=dQ fQ mH c0 c1 c2 c3 (ev hb2);clear hb2)
      | (go_at_call 244
         refine (Bc _ _ _ _ _ hs).mono ?_;rintro e w3 ⟨rfl,hb3⟩;obtain ⟨oh,-,f0,f1,f2,f3⟩:=dQ cy mO d0 d1 d2 d3 hb3;clear hb3))))
    | (exact absurd rfl Zde)
  all_goals go_wp2
  all_goals go_ret
  all_goals exact ⟨al (by rw [HO.I]),oh.I⟩
theorem BN (k n m:Int) (s:ByteArray) (w:w_) (hs:s.size≤1048576) (hk:isText k):
    k_ J3 240 #[a_ #[i_ j_ k,i_ j_ n,i_ j_ m,t_ s]] w fun e w'=>e=r_ (b_ (mQ k n m s))∧B_ w.heap.size w w':=by
  have HO:Hid (mQ k n m s=(cv n 1 1000 && decide (m=0) && bw s)):=F1 hk;have HK:Hid (isText k):=hk;clear hk
  go_enter func240,ntmps240
  go_wp2_with fail;refine (BJ k n m s _ HK.I).mono ?_;rintro e w1 ⟨rfl,hb1⟩;have c0:w1.cell? ⟨w.heap.size,0,n_⟩=o_ (i_ j_ k):=cQ hb1 0;have c1:w1.cell? ⟨w.heap.size,1,n_⟩=o_ (i_ j_ n):=cQ hb1 1;have c2:w1.cell? ⟨w.heap.size,2,n_⟩=o_ (i_ j_ m):=cQ hb1 2;have c3:w1.cell? ⟨w.heap.size,3,n_⟩=o_ (t_ s):=cQ hb1 3;have fQ:Hid (B_ w.heap.size w w1):=((Kp _ _).alloc (Ki _) _).trans (hb1.mono (by simp));have mH:Hid (w.heap.size < w1.heap.size):=by have:=hb1.size; simp only [RR] at this; exact this
  clear hb1;by_cases hm:m=0;rotate_left
  · have hm': ¬ 0=m:=fun h=>hm h.symm
    go_wp2_with fail
    first
      | (go_region_with
      ((first
        | (go_at_call 289
           refine (xS _ _ _ _).mono ?_;rintro e w2 ⟨rfl,hb2⟩;obtain ⟨cy,mO,d0,d1,d2,d3⟩:=dQ fQ mH c0 c1 c2 c3 (ev hb2);clear hb2)
        | (go_at_call 244
           refine (sL _ _ _ _ hs).mono ?_;rintro e w3 ⟨rfl,hb3⟩;obtain ⟨oh,-,f0,f1,f2,f3⟩:=dQ cy mO d0 d1 d2 d3 hb3;clear hb3))))
      | (exact absurd rfl Zde)
    all_goals go_wp2
    all_goals go_ret
    all_goals exact ⟨al (by rw [HO.I]; simp [hm]),cy.I⟩
  subst hm;go_wp2_with fail
  first
    | (go_region_with
    ((first
      | (go_at_call 289
         refine (xS _ _ _ _).mono ?_;rintro e w2 ⟨rfl,hb2⟩;obtain ⟨cy,mO,d0,d1,d2,d3⟩:=dQ fQ mH c0 c1 c2 c3 (ev hb2);clear hb2)
      | (go_at_call 244
         refine (sL _ _ _ _ hs).mono ?_;rintro e w3 ⟨rfl,hb3⟩;obtain ⟨oh,-,f0,f1,f2,f3⟩:=dQ cy mO d0 d1 d2 d3 hb3;clear hb3))))
    | (exact absurd rfl Zde)
  all_goals go_wp2
  all_goals go_ret
  all_goals exact ⟨al ZdM,oh.I⟩
theorem zY (k n m:Int) (s:ByteArray) (w:w_) (hk:k=17):
    k_ J3 240 #[a_ #[i_ j_ k,i_ j_ n,i_ j_ m,t_ s]] w fun e w'=>e=r_ (b_ (mQ k n m s))∧B_ w.heap.size w w':=by
  have HO:Hid (mQ k n m s=(decide (n=0) && decide (m=0) && bI s)):=Gm hk;have HK:Hid (k=17):=hk;clear hk
  go_enter func240,ntmps240
  go_wp2_with fail;refine (Ag k n m s _ HK.I).mono ?_;rintro e w1 ⟨rfl,hb1⟩;have c0:w1.cell? ⟨w.heap.size,0,n_⟩=o_ (i_ j_ k):=cQ hb1 0;have c1:w1.cell? ⟨w.heap.size,1,n_⟩=o_ (i_ j_ n):=cQ hb1 1;have c2:w1.cell? ⟨w.heap.size,2,n_⟩=o_ (i_ j_ m):=cQ hb1 2;have c3:w1.cell? ⟨w.heap.size,3,n_⟩=o_ (t_ s):=cQ hb1 3;have fQ:Hid (B_ w.heap.size w w1):=((Kp _ _).alloc (Ki _) _).trans (hb1.mono (by simp));have mH:Hid (w.heap.size < w1.heap.size):=by have:=hb1.size; simp only [RR] at this; exact this
  clear hb1;by_cases hn:n=0;rotate_left
  · have hn': ¬ 0=n:=fun h=>hn h.symm
    go_wp2_with fail
    first
      | (go_region_with
      ((first
        | (go_at_call 290
           refine (pu _ _).mono ?_;rintro e w2 ⟨rfl,hb2⟩;obtain ⟨cy,mO,d0,d1,d2,d3⟩:=dQ fQ mH c0 c1 c2 c3 (ev hb2);clear hb2)
        | (go_at_call 244
           refine (my _ _).mono ?_;rintro e w3 ⟨rfl,hb3⟩;obtain ⟨oh,-,f0,f1,f2,f3⟩:=dQ cy mO d0 d1 d2 d3 hb3;clear hb3))))
      | (exact absurd rfl Zde)
    all_goals go_wp2
    all_goals go_ret
    all_goals exact ⟨al (by rw [HO.I]; simp [hn]),cy.I⟩
  subst hn;by_cases hm:m=0;rotate_left
  · have hm': ¬ 0=m:=fun h=>hm h.symm
    go_wp2_with fail
    first
      | (go_region_with
      ((first
        | (go_at_call 290
           refine (pu _ _).mono ?_;rintro e w2 ⟨rfl,hb2⟩;obtain ⟨cy,mO,d0,d1,d2,d3⟩:=dQ fQ mH c0 c1 c2 c3 (ev hb2);clear hb2)
        | (go_at_call 244
           refine (my _ _).mono ?_;rintro e w3 ⟨rfl,hb3⟩;obtain ⟨oh,-,f0,f1,f2,f3⟩:=dQ cy mO d0 d1 d2 d3 hb3;clear hb3))))
      | (exact absurd rfl Zde)
    all_goals go_wp2
    all_goals go_ret
    all_goals exact ⟨al (by rw [HO.I]; simp [hm]),cy.I⟩
  subst hm;by_cases hes:s.toList= []
  rotate_left
  · have hes': ¬ [] =s.toList:=fun h=>hes h.symm
    have hem:bI s=false:=by simp [bI,hes]
    go_wp2_with fail
    first
      | (go_region_with
      ((first
        | (go_at_call 290
           refine (pu _ _).mono ?_;rintro e w2 ⟨rfl,hb2⟩;obtain ⟨cy,mO,d0,d1,d2,d3⟩:=dQ fQ mH c0 c1 c2 c3 (ev hb2);clear hb2)
        | (go_at_call 244
           refine (my _ _).mono ?_;rintro e w3 ⟨rfl,hb3⟩;obtain ⟨oh,-,f0,f1,f2,f3⟩:=dQ cy mO d0 d1 d2 d3 hb3;clear hb3))))
      | (exact absurd rfl Zde)
    all_goals go_wp2
    all_goals go_ret
    all_goals exact ⟨al (by rw [HO.I]; simp [hem]),cy.I⟩
  have hem:bI s=true:=by simp [bI,hes]
  go_wp2_with fail
  first
    | (go_region_with
    ((first
      | (go_at_call 290
         refine (pu _ _).mono ?_;rintro e w2 ⟨rfl,hb2⟩;obtain ⟨cy,mO,d0,d1,d2,d3⟩:=dQ fQ mH c0 c1 c2 c3 (ev hb2);clear hb2)
      | (go_at_call 244
         refine (my _ _).mono ?_;rintro e w3 ⟨rfl,hb3⟩;obtain ⟨oh,-,f0,f1,f2,f3⟩:=dQ cy mO d0 d1 d2 d3 hb3;clear hb3))))
    | (exact absurd rfl Zde)
  all_goals go_wp2
  all_goals go_ret
  all_goals exact ⟨al ZdM,oh.I⟩
theorem AY (k n m:Int) (s:ByteArray) (w:w_) (hk: ¬ (1≤k∧k≤17)):
    k_ J3 240 #[a_ #[i_ j_ k,i_ j_ n,i_ j_ m,t_ s]] w fun e w'=>e=r_ (b_ (mQ k n m s))∧B_ w.heap.size w w':=by
  rw [Bd hk]
  go_enter func240,ntmps240
  go_wp2_with fail;refine (BR k n m s _ hk).mono ?_;rintro e w1 ⟨rfl,hb1⟩;have fQ:Hid (B_ w.heap.size w w1):=((Kp _ _).alloc (Ki _) _).trans (hb1.mono (by simp));clear hb1;go_wp2_with fail
  go_quiet (fail)
  go_wp2;go_ret;exact ⟨rfl,bd fQ.I _⟩
theorem yx (k n m:Int) (s:ByteArray) (w:w_) (hs:s.size≤1048576):
    k_ J3 240 #[a_ #[i_ j_ k,i_ j_ n,i_ j_ m,t_ s]] w fun e w'=>e=r_ (b_ (mQ k n m s))∧B_ w.heap.size w w':=by
  by_cases h0:1≤k∧k≤17
  · by_cases h1:pJ k
    · exact Du k n m s w h1
    by_cases h2:mF k
    · exact AB k n m s w h2
    by_cases h3:isText k
    · exact BN k n m s w hs h3
    by_cases h4:k=8
    · exact BY k n m s w hs h4
    exact zY k n m s w ZdN
  · exact AY k n m s w h0
end
section
open Go.RowKit
structure bD where
 id:Int
 n:Int
 max:Int
def yz (x:bD):List v_:= [i_ j_ x.id,i_ j_ x.n,i_ j_ x.max]
def dm:Kind bD:=⟨3,yz,fun _=> [],by decide,fun _=>rfl⟩
def bD.At (w:w_) (g i:Nat) (x:bD):Prop:=w.cell? ⟨g,i * 3,n_⟩=o_ (i_ j_ x.id)∧w.cell? ⟨g,i * 3+1,n_⟩=o_ (i_ j_ x.n)∧w.cell? ⟨g,i * 3+2,n_⟩=o_ (i_ j_ x.max)
theorem lQ {w:w_} {a:Option d_} {l:List bD} (h:dm.bU w a l) {i:Nat} {x:bD} (hx:l[i]? =o_ x): ∃ g,a=o_ ⟨g,0,n_⟩∧bD.At w g i x:=by
 exact Za3
structure aB where
 id:Int
 up:Bool
def rY (x:aB):List v_:= [i_ j_ x.id,b_ x.up]
def bJ:Kind aB:=⟨2,rY,fun _=> [],by decide,fun _=>rfl⟩
def aB.At (w:w_) (g i:Nat) (x:aB):Prop:=w.cell? ⟨g,i * 2,n_⟩=o_ (i_ j_ x.id)∧w.cell? ⟨g,i * 2+1,n_⟩=o_ (b_ x.up)
theorem j4 {w:w_} {a:Option d_} {l:List aB} (h:bJ.bU w a l) {i:Nat} {x:aB} (hx:l[i]? =o_ x): ∃ g,a=o_ ⟨g,0,n_⟩∧aB.At w g i x:=by
 obtain ⟨g,e,hc⟩:=h.at hx;exact ⟨g,e,hc 0 _ rfl,hc 1 _ rfl⟩
structure az where
 id:Int
 shown:Bool
 text:ByteArray
def sn (x:az):List v_:= [i_ j_ x.id,b_ x.shown,t_ x.text]
def bG:Kind az:=⟨3,sn,fun _=> [],by decide,fun _=>rfl⟩
def az.At (w:w_) (g i:Nat) (x:az):Prop:=w.cell? ⟨g,i * 3,n_⟩=o_ (i_ j_ x.id)∧w.cell? ⟨g,i * 3+1,n_⟩=o_ (b_ x.shown)∧w.cell? ⟨g,i * 3+2,n_⟩=o_ (t_ x.text)
theorem jr {w:w_} {a:Option d_} {l:List az} (h:bG.bU w a l) {i:Nat} {x:az} (hx:l[i]? =o_ x): ∃ g,a=o_ ⟨g,0,n_⟩∧az.At w g i x:=by
 exact Za3
structure ci where
 id:Int
 max:Int
 Ma:List ByteArray
structure au extends ci where
 ak:Option d_
 aq:Nat
def nD (x:au):List v_:= [i_ j_ x.id,i_ j_ x.max,s_ x.ak x.Ma.length x.aq]
def bm:Kind au:=⟨3,nD,fun x=> [(x.ak,bT.flat x.Ma)],by decide,fun _=>rfl⟩
def au.At (w:w_) (g i:Nat) (x:au):Prop:=w.cell? ⟨g,i * 3,n_⟩=o_ (i_ j_ x.id)∧w.cell? ⟨g,i * 3+1,n_⟩=o_ (i_ j_ x.max)∧w.cell? ⟨g,i * 3+2,n_⟩=o_ (s_ x.ak x.Ma.length x.aq)
theorem iA {w:w_} {a:Option d_} {l:List au} (h:bm.bU w a l) {i:Nat} {x:au} (hx:l[i]? =o_ x): ∃ g,a=o_ ⟨g,0,n_⟩∧au.At w g i x:=by
 exact Za3
theorem lj {w:w_} {a:Option d_} {l:List au} (h:bm.bU w a l) {i:Nat} {x:au} (hx:l[i]? =o_ x):Row w x.ak (bT.flat x.Ma):=h.bt hx (r:=(x.ak,bT.flat x.Ma)) (by simp [bm])
structure dS where
 id:Int
 I:Bool
 Mf:Bool
 max:Int
 Ma:List ByteArray
structure aM extends dS where
 ak:Option d_
 aq:Nat
def qT (x:aM):List v_:= [i_ j_ x.id,b_ x.I,b_ x.Mf,i_ j_ x.max,s_ x.ak x.Ma.length x.aq]
def bX:Kind aM:=⟨5,qT,fun x=> [(x.ak,bT.flat x.Ma)],by decide,fun _=>rfl⟩
def aM.At (w:w_) (g i:Nat) (x:aM):Prop:=w.cell? ⟨g,i * 5,n_⟩=o_ (i_ j_ x.id)∧w.cell? ⟨g,i * 5+1,n_⟩=o_ (b_ x.I)∧w.cell? ⟨g,i * 5+2,n_⟩=o_ (b_ x.Mf)∧w.cell? ⟨g,i * 5+3,n_⟩=o_ (i_ j_ x.max)∧w.cell? ⟨g,i * 5+4,n_⟩=o_ (s_ x.ak x.Ma.length x.aq)
theorem lm {w:w_} {a:Option d_} {l:List aM} (h:bX.bU w a l) {i:Nat} {x:aM} (hx:l[i]? =o_ x): ∃ g,a=o_ ⟨g,0,n_⟩∧aM.At w g i x:=by
 obtain ⟨g,e,hc⟩:=h.at hx;exact ⟨g,e,hc 0 _ rfl,hc 1 _ rfl,hc 2 _ rfl,hc 3 _ rfl,hc 4 _ rfl⟩
theorem nJ {w:w_} {a:Option d_} {l:List aM} (h:bX.bU w a l) {i:Nat} {x:aM} (hx:l[i]? =o_ x):Row w x.ak (bT.flat x.Ma):=h.bt hx (r:=(x.ak,bT.flat x.Ma)) (by simp [bX])
structure aD where
 id:Int
 RX:Int
 prog:List dN
 Md:Int
 pc:Int
 left:Int
 Mg:Int
 on:Int
 held:ByteArray
 got:ByteArray
 code:Int
 RU:Int
structure ao extends aD where
 aY:Option d_
 bH:Nat
def qN (x:ao):List v_:= [i_ j_ x.id,i_ j_ x.RX,s_ x.aY x.prog.length x.bH,i_ j_ x.Md,i_ j_ x.pc,i_ j_ x.left,i_ j_ x.Mg,i_ j_ x.on,t_ x.held,t_ x.got,i_ j_ x.code,i_ j_ x.RU]
def bg:Kind ao:=⟨12,qN,fun x=> [(x.aY,fk.flat x.prog)],by decide,fun _=>rfl⟩
def ao.At (w:w_) (g i:Nat) (x:ao):Prop:=w.cell? ⟨g,i * 12,n_⟩=o_ (i_ j_ x.id)∧w.cell? ⟨g,i * 12+1,n_⟩=o_ (i_ j_ x.RX)∧w.cell? ⟨g,i * 12+2,n_⟩=o_ (s_ x.aY x.prog.length x.bH)∧w.cell? ⟨g,i * 12+3,n_⟩=o_ (i_ j_ x.Md)∧w.cell? ⟨g,i * 12+4,n_⟩=o_ (i_ j_ x.pc)∧w.cell? ⟨g,i * 12+5,n_⟩=o_ (i_ j_ x.left)∧w.cell? ⟨g,i * 12+6,n_⟩=o_ (i_ j_ x.Mg)∧w.cell? ⟨g,i * 12+7,n_⟩=o_ (i_ j_ x.on)∧w.cell? ⟨g,i * 12+8,n_⟩=o_ (t_ x.held)∧w.cell? ⟨g,i * 12+9,n_⟩=o_ (t_ x.got)∧w.cell? ⟨g,i * 12+10,n_⟩=o_ (i_ j_ x.code)∧w.cell? ⟨g,i * 12+11,n_⟩=o_ (i_ j_ x.RU)
theorem cn {w:w_} {a:Option d_} {l:List ao} (h:bg.bU w a l) {i:Nat} {x:ao} (hx:l[i]? =o_ x): ∃ g,a=o_ ⟨g,0,n_⟩∧ao.At w g i x:=by
 obtain ⟨g,e,hc⟩:=h.at hx;exact ⟨g,e,hc 0 _ rfl,hc 1 _ rfl,hc 2 _ rfl,hc 3 _ rfl,hc 4 _ rfl,hc 5 _ rfl,hc 6 _ rfl,hc 7 _ rfl,hc 8 _ rfl,hc 9 _ rfl,hc 10 _ rfl,hc 11 _ rfl⟩
theorem lA {w:w_} {a:Option d_} {l:List ao} (h:bg.bU w a l) {i:Nat} {x:ao} (hx:l[i]? =o_ x):Row w x.aY (fk.flat x.prog):=h.bt hx (r:=(x.aY,fk.flat x.prog)) (by simp [bg])
structure af where
 id:Int
 next:Int
 L8:List ao
 aN:Option d_
 aW:Nat
 aj:List bD
 bc:Option d_
 bF:Nat
 L9:List aB
 ay:Option d_
 aO:Nat
 ag:List az
 ax:Option d_
 aP:Nat
 ae:List au
 am:Option d_
 aG:Nat
 ai:List aM
 aK:Option d_
 aV:Nat
def af.cells (p:af):Array v_:= #[i_ j_ p.id,i_ j_ p.next,s_ p.aN p.L8.length p.aW,s_ p.bc p.aj.length p.bF,s_ p.ay p.L9.length p.aO,s_ p.ax p.ag.length p.aP,s_ p.am p.ae.length p.aG,s_ p.aK p.ai.length p.aV]
def af.At (w:w_) (p:af):Prop:=bg.bU w p.aN p.L8∧dm.bU w p.bc p.aj∧bJ.bU w p.ay p.L9∧bG.bU w p.ax p.ag∧bm.bU w p.am p.ae∧bX.bU w p.aK p.ai
theorem af.At.below {w w':w_} {p:af} (h:af.At w p) (hb:B_ w.heap.size w w'):af.At w' p:=⟨h.1.below hb,h.2.1.below hb,h.2.2.1.below hb,h.2.2.2.1.below hb,h.2.2.2.2.1.below hb,h.2.2.2.2.2.below hb⟩
structure aE where
 id:Int
 next:Int
 L8:List aD
 aj:List bD
 L9:List aB
 ag:List az
 ae:List ci
 ai:List dS
def af.pure (p:af):aE:=⟨p.id,p.next,p.L8.map (·.toaD),p.aj,p.L9,p.ag,p.ae.map (·.toci),p.ai.map (·.todS)⟩
def place (l:List Int) (id:Int) (i:Nat):Int:=match l with
 | [] => -1
 | x :: r=>if x=id then i else place r id (i+1)
theorem z8: ∀ (l:List Int) (id:Int) (i:Nat),place l id i= -1∨(i:Int)≤place l id i
 | [],_,_=> .inl rfl
 | y :: r,id,i=>by
  simp only [place]
  split
  ·exact .inr (by omega)
  ·rcases z8 r id (i+1) with h | h
   ·exact .inl h
   ·exact .inr (by omega)
theorem nN: ∀ {l:List Int} {id:Int} {i:Nat},place l id i= -1↔id∉l
 | [],id,i=>by simp [place]
 | y :: r,id,i=>by
  simp only [place,Kt,not_or]
  split
  ·rename_i h
   constructor
   ·intro h2; omega
   ·intro h2; exact absurd h.symm h2.1
  ·rename_i h
   rw [nN (l:=r)];exact ⟨fun h2=>⟨fun e=>h e.symm,h2⟩,fun h2=>h2.2⟩
theorem ku {l:List Int} {id:Int} {k:Nat} (h:id∉l.take k) {x:Int} (hx:l[k]? =o_ x) (e:x=id):place l id 0=k:=by
 have hk:k < l.length:=(Lj.1 hx).1;have e1:l=l.take k ++ x :: l.drop (k+1):=by
  have:=List.take_append_drop k l
  rw [List.drop_eq_getElem_cons hk] at this;rw [← this];rw [Kz hk] at hx;cases hx;simp
 have key: ∀ (t:List Int) (i:Nat),id∉t→place (t ++ x :: l.drop (k+1)) id i=((i+t.length:Nat):Int):=by
  intro t
  induction t with
  | nil=>intro i _; simp [place,e]
  | cons y r ih=>
   intro i hn;simp only [Kt,not_or] at hn;simp only [List.cons_append,place];rw [if_neg (fun h=>hn.1 h.symm),ih (i+1) hn.2];simp only [Lg];rw [show i+1+r.length=i+(r.length+1) by omega]
 have:=key (l.take k) 0 h
 rw [← e1] at this;rw [this,List.length_take]
 congr 1
 omega
abbrev af.row (p:af):Array v_:= #[i_ j_ p.id,i_ j_ p.next,s_ p.aN p.L8.length p.aW,s_ p.bc p.aj.length p.bF,s_ p.ay p.L9.length p.aO,s_ p.ax p.ag.length p.aP,s_ p.am p.ae.length p.aG,s_ p.aK p.ai.length p.aV]
abbrev af.L6 (p:af) (g:Nat):Array v_:= #[i_ j_ p.id,i_ j_ p.next,s_ (o_ ⟨g,0,n_⟩) p.L8.length p.aW,s_ p.bc p.aj.length p.bF,s_ p.ay p.L9.length p.aO,s_ p.ax p.ag.length p.aP,s_ p.am p.ae.length p.aG,s_ p.aK p.ai.length p.aV]
abbrev ao.row (x:ao):Array v_:= #[i_ j_ x.id,i_ j_ x.RX,s_ x.aY x.prog.length x.bH,i_ j_ x.Md,i_ j_ x.pc,i_ j_ x.left,i_ j_ x.Mg,i_ j_ x.on,t_ x.held,t_ x.got,i_ j_ x.code,i_ j_ x.RU]
abbrev ar:Array v_:= #[i_ j_ 0,i_ j_ 0,s_ n_ 0 0,s_ n_ 0 0,s_ n_ 0 0,s_ n_ 0 0,s_ n_ 0 0,s_ n_ 0 0]
abbrev cE:Array v_:= #[i_ j_ 0,i_ j_ 0,s_ n_ 0 0,i_ j_ 0,i_ j_ 0,i_ j_ 0,i_ j_ 0,i_ j_ 0,t_ ⟨#[]⟩,t_ ⟨#[]⟩,i_ j_ 0,i_ j_ 0]
theorem vv (g len cap:Nat) (K N M:Nat→Int) (S:Nat→ByteArray) (w:w_) (hl:len≤1048576) (hs: ∀ i,i < len→(S i).size≤1048576) (hr:iG w g len K N M S):
  k_ J3 84 #[s_ (o_ ⟨g,0,n_⟩) len cap] w fun e w'=>e=r_ (b_ (nq len K N M S))∧B_ w.heap.size w w':=by
 have HR:Hid (iG w g len K N M S):=hr;have HS:Hid (∀ i,i < len→(S i).size≤1048576):=hs;clear hr hs
 go_enter func84,ntmps84
 go_wp2
 go_loopw [3] (fun i wr=> ∃ k:Nat,k≤len∧i=i_ j_ k∧(∀ j,j < k→j8 K N M S j=true)∧B_ w.heap.size w wr) (fun i _=>len - (intOf i).toNat)
 case atStart=>exact ⟨0,Ky _,rfl,fun j hj=>absurd hj (by omega),Kp _ _⟩
 case round=>
  obtain ⟨k,hk,rfl,hall,kj⟩:=hrel;have HA:Hid (∀ j,j < k→j8 K N M S j=true):=hall;have HB:Hid (B_ w.heap.size w wr):=kj;have HW:Hid (iG wr g len K N M S):=HR.I.below kj;clear hall kj;by_cases hlt:k < len
  ·have c0:=HW.I.c0 hlt
   have c1:=HW.I.c1 hlt;have c2:=HW.I.c2 hlt;have c3:=HW.I.c3 hlt;have i0:(0:Int)≤(k:Int):=by omega
   have i1:(k:Int) < (len:Int):=by omega
   go_wp2_with fail;refine (xZ (K k) (N k) (M k) (S k) wr (HS.I k hlt)).mono ?_;rintro e w1 ⟨rfl,hb1⟩;have fQ:Hid (B_ w.heap.size w w1):=HB.I.trans (hb1.mono HB.I.size);exact y_
  ·have e:k=len:=by omega
   subst e;by_cases h1:1≤k
   ·have h1':(1:Int)≤(k:Int):=by omega
    by_cases h2:k≤20
    ·have h2':(k:Int)≤20:=by omega
     go_wp2;go_ret;exact ⟨al (by rw [vM ⟨h1,h2,HA.I⟩]),HB.I⟩
    ·have h2': ¬ (k:Int)≤20:=by omega
     go_wp2;go_ret;exact ⟨al (by rw [iS (fun h=>h2 h.2.1)]),HB.I⟩
   ·have h1': ¬ (1:Int)≤(k:Int):=by omega
    go_wp2;go_ret;exact ⟨al (by rw [iS (fun h=>h1 h.1)]),HB.I⟩
theorem tV (g len cap:Nat) (K N M:Nat→Int) (S:Nat→ByteArray) (w:w_) (hl:len≤1048576) (hs: ∀ i,i < len→(S i).size≤1048576) (hr:iG w g len K N M S):
  k_ J3 237 #[s_ (o_ ⟨g,0,n_⟩) len cap] w fun e w'=>e=r_ (b_ (nq len K N M S))∧B_ w.heap.size w w':=by
 have HR:Hid (iG w g len K N M S):=hr;have HS:Hid (∀ i,i < len→(S i).size≤1048576):=hs;clear hr hs;by_cases h1: ¬ 1≤len
 ·have h1':(len:Int) < 1:=by omega
  go_enter func237,ntmps237
  go_wp2;go_ret;exact ⟨al (iS (fun h=>h1 h.1)).symm,Kp _ _⟩
 have h1': ¬ (len:Int) < 1:=by omega
 by_cases h2:20 < len
 ·have h2':(20:Int) < (len:Int):=by omega
  go_enter func237,ntmps237
  go_wp2;go_ret;exact ⟨al (iS (fun h=>by omega)).symm,Kp _ _⟩
 have h2': ¬ (20:Int) < (len:Int):=by omega
 go_enter func237,ntmps237
 go_wp2_with fail
 go_loopw [15] (fun i wr=> ∃ k:Nat,k≤len∧i=i_ j_ k∧(∀ j,j < k→j8 K N M S j=true)∧B_ w.heap.size w wr) (fun i _=>len - (intOf i).toNat)
 case atStart=>exact ⟨0,Ky _,rfl,fun j hj=>absurd hj (by omega),Kp _ _⟩
 case round=>
  obtain ⟨k,hk,rfl,hall,kj⟩:=hrel;have HA:Hid (∀ j,j < k→j8 K N M S j=true):=hall;have HB:Hid (B_ w.heap.size w wr):=kj;have HW:Hid (iG wr g len K N M S):=HR.I.below kj;clear hall kj;by_cases hlt:k < len
  ·have c0:=HW.I.c0 hlt
   have c1:=HW.I.c1 hlt;have c2:=HW.I.c2 hlt;have c3:=HW.I.c3 hlt;have i0:(0:Int)≤(k:Int):=by omega
   have i1:(k:Int) < (len:Int):=by omega
   have hgl:=HW.I.1;go_wp2_with fail;refine (yx (K k) (N k) (M k) (S k) _ (HS.I k hlt)).mono ?_;rintro e w1 ⟨rfl,hb1⟩;have fQ:Hid (B_ w.heap.size w w1):=(HB.I.alloc HB.I.size _).trans (hb1.mono (by have:=HB.I.size; simp; omega));exact y_
  ·have e:k=len:=by omega
   subst e;go_wp2;go_ret;exact ⟨al (vM ⟨by omega,by omega,HA.I⟩).symm,HB.I⟩
def gO:List dN→List v_
 | [] => []
 | o :: os=> i_ j_ o.1 :: i_ j_ o.2.1 :: i_ j_ o.2.2.1 :: t_ o.2.2.2 :: gO os
theorem pK: ∀ (os os':List dN),gO (os ++ os')=gO os ++ gO os'
 | [],_=>rfl
 | o :: os,os'=>by simp [gO,pK os os']
theorem xU: ∀ (os:List dN) (j:Nat),j < os.length * 4→(gO os)[j]? =o_ (xe (Cd os) (Cg os) (Ea os) (Ce os) j)
 | [],j,h=>by simp at h
 | o :: os,j,h=>by
  have hk: ∀ i,Cd (o :: os) (i+1)=Cd os i∧Cg (o :: os) (i+1)=Cg os i∧Ea (o :: os) (i+1)=Ea os i∧Ce (o :: os) (i+1)=Ce os i:=fun i=>by simp [Cd,Cg,Ea,Ce]
  match j,h with
  | 0,_=>simp [gO,xe,Cd]
  | 1,_=>simp [gO,xe,Cg]
  | 2,_=>simp [gO,xe,Ea]
  | 3,_=>simp [gO,xe,Ce]
  | j+4,h=>
   have ih:=xU os j (by simp at h; omega);have e1:(j+4) / 4=j / 4+1:=by omega
   have e2:(j+4) % 4=j % 4:=by omega
   obtain ⟨h1,h2,h3,h4⟩:=hk (j / 4);simp only [gO,QC];rw [ih];simp only [xe,e1,e2,h1,h2,h3,h4]
theorem Fa {w:w_} {base n:Nat} {v:v_} {os:List dN} (h:w.ownsRow base 45 4 v n (gO os)) (hn:n=os.length):(v=s_ n_ 0 0∧os.length=0)∨ ∃ g c,v=s_ (o_ ⟨g,0,n_⟩) os.length c∧base≤g∧y9 w g os∧ ∃ cur:Array v_,w.heap[g]? =o_ (c_ cur 45)∧os.length * 4≤cur.size∧ ∀ j,j < os.length * 4→cur[j]? =o_ (xe (Cd os) (Cg os) (Ea os) (Ce os) j):=by
 subst hn;rcases h.2 with ⟨h1,h2⟩ | ⟨g,cap,cur,h1,h2,h3,h4,h5,h6,h7⟩
 ·exact .inl ⟨h1,h2⟩
 ·have key: ∀ j,j < os.length * 4→cur[j]? =o_ (xe (Cd os) (Cg os) (Ea os) (Ce os) j):=fun j hj=>by
   rw [← xU os j hj,← h7,List.getElem?_take_of_lt (by omega)];simp
  refine .inr ⟨g,cap,h1,h2,⟨(J2.1 h3).1,fun j hj=> ?_⟩,cur,h3,by omega,key⟩;rw [K5 _ _ _ _ _ _ h3];exact key j hj
theorem xh {w:w_} {base n:Nat} {v:v_} {xs:List v_} (h:w.ownsRow base 45 4 v (n+1) xs): ∃ g c,v=s_ (o_ ⟨g,0,n_⟩) (n+1) c:=by
 rcases h.2 with ⟨_,h2⟩ | ⟨g,cap,cur,h1,_⟩
 ·omega
 ·exact ⟨g,cap,h1⟩
theorem Ii:(Tryz.prog.info? 45).map (fun i=>(i.zero,i.size,i.bytes))=o_ (o_ (a_ #[i_ j_ 0,i_ j_ 0,i_ j_ 0,t_ ⟨#[]⟩]),4,40):=by kernel_rfl
theorem nt (os:List dN) (o:dN):(os ++ [o]).length=os.length+1:=by simp
structure mM (r:Nat) (a:Option d_) (len cap:Nat) (w x:w_) (g c:Nat) (os:List dN):Prop where
 own:x.ownsRow w.heap.size 45 4 (s_ (o_ ⟨g,0,n_⟩) os.length c) os.length (gO os)
 but:gG r w x
 rd:Rd r a len cap x
 st:Rd r a len cap w
 sz: ∀ o∈os,o.2.2.2.size≤3
theorem mM.form {r:Nat} {a:Option d_} {len cap:Nat} {w x:w_} {g c:Nat} {os:List dN} (h:mM r a len cap w x g c os):w.heap.size≤g∧y9 x g os:=by
 rcases Fa h.own rfl with ⟨h1,_⟩ | ⟨g',c',h1,h2,h3,_⟩
 ·cases h1
 ·cases h1
  exact ⟨h2,h3⟩
theorem mM.move {r:Nat} {a:Option d_} {len cap:Nat} {w x y:w_} {g c:Nat} {os:List dN} (h:mM r a len cap w x g c os) (hb:gG r x y) (hr:Rd r a len cap y):mM r a len cap w y g c os:=
 ⟨AJ h.own hb h.st.lt,h.but.trans hb,hr,h.st,h.sz⟩
theorem mM.alloc {r:Nat} {a:Option d_} {len cap:Nat} {w x:w_} {g c:Nat} {os:List dN} (h:mM r a len cap w x g c os) (o:Obj):mM r a len cap w (x.alloc o) g c os:=
 h.move ((gG.refl _ _).alloc _) (h.rd.below ((Kp _ _).alloc (Ki _) _))
theorem mM.next {r:Nat} {a:Option d_} {len cap:Nat} {w x w5:w_} {g c g' c':Nat} {os:List dN} {o:dN} (h:mM r a len cap w x g c os) (hz:o.2.2.2.size≤3) (hg:x.grownBy w5 (o_ g))
  (hown:w5.ownsRow w.heap.size 45 4 (s_ (o_ ⟨g',0,n_⟩) (os.length+1) c') (os.length+1) (gO os ++ [i_ j_ o.1,i_ j_ o.2.1,i_ j_ o.2.2.1,t_ o.2.2.2])):mM r a len cap w w5 g' c' (os ++ [o]):=by
 have hf:=h.form.1;have hb:gG r w w5:=h.but.grown hg (fun k hk=>by cases hk; exact hf);obtain ⟨p,hp,hrow⟩:=h.rd.1;have hrl:=h.st.lt;have hrow5:w5.heap[r]? =o_ (c_ #[s_ a len cap,i_ j_ p] 103):=(hg.block r (J2.1 hrow).1 (fun e=>by cases e; omega)).trans hrow;refine ⟨?_,hb,⟨⟨p,hp,hrow5⟩,h.st.2.but hb⟩,h.st,fun q hq=> ?_⟩
 ·rw [pK,nt]
  simpa [gO] using hown
 ·rcases List.mem_append.1 hq with hq | hq
  ·exact h.sz q hq
  ·rw [List.mem_singleton] at hq; subst hq; exact hz
theorem uz (r:Nat) (a:Option d_) (len cap:Nat) (w:w_) (hl:len≤1048576) (h:Rd r a len cap w):
  k_ J3 79 #[p_ (o_ ⟨r,0,n_⟩)] w fun e w'=> ∃ (g c:Nat) (os:List dN),e=r_ (s_ (o_ ⟨g,0,n_⟩) os.length c)∧os.length≤6∧mM r a len cap w w' g c os:=by
 obtain ⟨i0,hi,e0⟩:=Kw.1 Ii;simp only [Prod.mk.injEq] at e0;have HI:Hid (Tryz.prog.info? 45=o_ i0∧i0.zero=o_ (a_ #[i_ j_ 0,i_ j_ 0,i_ j_ 0,t_ ⟨#[]⟩])∧i0.size=4∧i0.bytes=40):=⟨hi,e0⟩
 clear hi e0;have HA:Hid (mM r a len cap w (w.alloc (c_ #[] 45)) w.heap.size 0 []):=
  ⟨⟨rfl,.inr ⟨w.heap.size,0,#[],rfl,Ki _,Kj _ _,Ki _,Ky _,rfl,rfl⟩⟩,(gG.refl _ _).alloc _,h.below ((Kp _ _).alloc (Ki _) _),h,fun o ho=>by simp at ho⟩
 clear h
 go_enter func79,ntmps79
 go_wp2_with fail;generalize w.alloc (c_ #[] 45)=W0 at *;generalize hgs:w.heap.size=g0 at *;refine (dh r a len cap 5 _ hl (by omega) (by omega) HA.I.rd).mono ?_;rintro e w1 ⟨v,v0,v1,rfl,hb1,hr1⟩;have H1:Hid (mM r a len cap w w1 g0 0 []):=HA.I.move hb1 hr1;have e1:IntKind.i64.wrap (1+v)=1+v:=by rw [K8]; omega
 clear hb1 hr1 HA;go_wp2_with fail
 go_loopw [3,4] (fun v i wr=> ∃ (g c:Nat) (os:List dN) (m:Int),v=s_ (o_ ⟨g,0,n_⟩) os.length c∧i=i_ j_ m∧0≤m∧(os.length:Int)+m≤5∧Hid (mM r a len cap w wr g c os)) (fun _ i _=>(intOf i).toNat)
 case atStart=>exact ⟨g0,0,[],1+v,rfl,rfl,by omega,by simp; omega,H1⟩
 case round=>
  clear H1;obtain ⟨g,c,os,m,rfl,rfl,hm0,hm5,H⟩:=hrel;by_cases hm:0 < m
  ·go_wp2_with fail
   refine (op_any r a len cap _ hl H.I.rd).mono ?_;rintro e w4 ⟨o,hoz,rfl,hb4,hr4⟩;have H4:Hid (mM r a len cap w w4 g c os):=H.I.move hb4 hr4;have HX:Hid (mM r a len cap w (w4.alloc (c_ #[i_ j_ o.1,i_ j_ o.2.1,i_ j_ o.2.2.1,t_ o.2.2.2] 45)) g c os):=H4.I.alloc _;have e2:IntKind.i64.wrap (m - 1)=m - 1:=by rw [K8]; omega
   have hw4:=H4.I.but.size;clear hb4 hr4 H;go_wp2_with (at_builtin; refine KD _ rfl _ _ 39 rfl w.heap.size 45 i0 (a_ #[i_ j_ 0,i_ j_ 0,i_ j_ 0,t_ ⟨#[]⟩]) 4 40 underlying39 HI.I.1 HI.I.2.1 HI.I.2.2.1 HI.I.2.2.2 rfl (by decide) (s_ (o_ ⟨g,0,n_⟩) os.length c) os.length (gO os) rfl HX.I.own ⟨w4.heap.size,0,n_⟩ 1 1 [i_ j_ o.1,i_ j_ o.2.1,i_ j_ o.2.2.1,t_ o.2.2.2] (by rfl) rfl (KE (cs:= #[i_ j_ o.1,i_ j_ o.2.1,i_ j_ o.2.2.1,t_ o.2.2.2]) (t:=45) (fr:=(0,0)) (Kj w4 _)) Zc3 ZcW (by omega) ZcT ?_; intro v' w5 hown' hgrow hnil jV; obtain ⟨gg,cp,rfl⟩:=xh hown'; have HN:Hid (mM r a len cap w w5 gg cp (os ++ [o])):=HX.I.next hoz hgrow hown'; clear hown' hgrow hnil jV HX);go_roundw
   case rel=>exact ⟨gg,cp,os ++ [o],m - 1,by rw [nt],rfl,by omega,by rw [nt]; omega,HN⟩
   case measure=>simp [intOf]; omega
  ·go_wp2_with fail
   refine (jt r a len cap 3 _ hl (by omega) (by omega) H.I.rd).mono ?_;rintro e w3 ⟨bb,rfl,hb3,hr3⟩;have H3:Hid (mM r a len cap w w3 g c os):=H.I.move hb3 hr3;clear hb3 hr3 H;cases bb with
   | false=>
    go_wp2;go_ret;exact ⟨g,c,os,rfl,by omega,H3.I⟩
   | true=>
    have HX:Hid (mM r a len cap w (w3.alloc (c_ #[i_ j_ 17,i_ j_ 0,i_ j_ 0,t_ ⟨#[]⟩] 45)) g c os):=H3.I.alloc _;have hw4:=H3.I.but.size;go_wp2_with (at_builtin; refine KD _ rfl _ _ 39 rfl w.heap.size 45 i0 (a_ #[i_ j_ 0,i_ j_ 0,i_ j_ 0,t_ ⟨#[]⟩]) 4 40 underlying39 HI.I.1 HI.I.2.1 HI.I.2.2.1 HI.I.2.2.2 rfl (by decide) (s_ (o_ ⟨g,0,n_⟩) os.length c) os.length (gO os) rfl HX.I.own ⟨w3.heap.size,0,n_⟩ 1 1 [i_ j_ 17,i_ j_ 0,i_ j_ 0,t_ ⟨#[]⟩] (by rfl) rfl (KE (cs:= #[i_ j_ 17,i_ j_ 0,i_ j_ 0,t_ ⟨#[]⟩]) (t:=45) (fr:=(0,0)) (Kj w3 _)) Zc3 ZcW (by omega) ZcT ?_; intro v' w5 hown' hgrow hnil jV; obtain ⟨gg,cp,rfl⟩:=xh hown'; have HN:Hid (mM r a len cap w w5 gg cp (os ++ [(17,0,0,⟨#[]⟩)])):=HX.I.next (Ky 3) hgrow hown'; clear hown' hgrow hnil jV HX);go_ret;exact ⟨gg,cp,os ++ [(17,0,0,⟨#[]⟩)],by rw [nt]; rfl,by rw [nt]; omega,HN.I⟩
end
end Go.Proofs.YtfncpmaefninjaaGreatDoor
