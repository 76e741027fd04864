/- What the proof leans on, part 1. -/
import Derived.Test.YtnlbiglljiopmaaGreatDoorOwnV
import Derived.Test.YtnlbiglljiopmaaGreatDoorProg
import Derived.Handy
import Derived.Deep.OwnRows
import Derived.BigQuiet
import Derived.Lib.ItoaNum
import Derived.Deep.RegionHeld3
import Derived.Deep.DrawnRows
import Derived.Maps.RangeWalk
set_option linter.unusedVariables false
set_option maxRecDepth 100000
set_option maxHeartbeats 8000000
open Go.Proofs.Tryz
open Go renaming World->w_,Value->v_,Calls->k_,Addr->d_,TypeId->T_
open Go.Ending renaming returned->r_
open Go.IntKind renaming i64->j_
open Go.Obj renaming cells->c_
open Go.RowKit renaming Below->B_
open Go.Value renaming int->i_,slice->s_,bool->b_,string->t_,agg->a_,pointer->p_,tuple->u_
open Option renaming some->o_,none->n_
open Array renaming all_eq_true_iff_forall_mem->aeb,getD_eq_getD_getElem?->adY,getElem?_eq_getElem->Qb,getElem?_eq_some_iff->J2
open Bool renaming and_eq_true->J7,and_false->PP,false_eq_true->J5,false_or->Qg,not_eq_true'->PR,or_eq_true->Kb
open Go renaming block_lt_of_cell->Le,bodyPost_ret->KT,cell_of_row->K5,heap_alloc_new->Kj,mem_ready->Qf,ready_mono->Qe,wpOp_mono->Qd,wp_at_succ->Kd,wp_at_zero->Kc
open Go.Act renaming put_comm->Qc
open Go.AllReadyH renaming cons->KX,nil->KY
open Go.Calls renaming mono->adn
open Go.DataW.lit renaming injEq->QZ
open Go.Proofs.Tryz renaming prog->J3,underlying2->KN
open Go.RowKit.Below renaming refl->Kp
open Go.World renaming cell?_of_block->J1,size_alloc->RR
open List renaming all_eq_true->PZ,cons_append->Qw,drop_eq_getElem_cons->adH,filter_cons->LN,find?_cons->LL,getElem?_eq_getElem->Kz,getElem?_eq_some_iff->Lj,getElem?_map->Kk,getElem_mem->PJ,length_append->Lf,length_cons->Lg,length_map->KG,map_cons->Lt,mem_cons->Kt,mem_filter->L2,mem_map->Lr,mem_of_getElem?->KA,nodup_cons->Lp,pairwise_cons->LM,take_append_drop->Qn,take_of_length_le->KF,take_succ_eq_append_getElem->QE
open Nat renaming le_refl->Ki,lt_of_lt_of_le->Kn,succ_mul->Lh,zero_le->Ky
open Option renaming getD_some->Ka,map_some->J9
open Option.some renaming inj->KC,injEq->LF

namespace Go.Proofs.YtnlbiglljiopmaaGreatDoor
section
open Go.RowKit
theorem _root_.Go.RowKit.Hid.I {p:Prop} (h:Hid p):p:=h
theorem PU {w:w_} {o:Obj} {i:Nat} (h:i < w.heap.size):(w.alloc o).heap[i]? =w.heap[i]? :=((Kp _ w).alloc (Ki _) o).block i h
def cv (n lo hi:Int):Bool:=decide (lo≤n) && decide (n≤hi)
def szOf (left:Int) (len:Nat):Int:=if left < len then -1 else left - len
theorem Bj {left:Int} {len:Nat} (h:left < len):szOf left len= -1:=if_pos h
theorem AQ {left:Int} {len:Nat} (h:(len:Int)≤left):szOf left len=left - len:=if_neg (by omega)
theorem eB {n lo hi:Int} (h1:lo≤n) (h2:n≤hi):cv n lo hi=true:=by simp [cv,h1,h2]
theorem mA {n lo hi:Int} (h:n < lo):cv n lo hi=false:=by simp [cv]; omega
theorem kR {n lo hi:Int} (h:hi < n):cv n lo hi=false:=by simp [cv]; omega
theorem al {a b:Bool} (h:a=b):Ending.returned (b_ a)=r_ (b_ b):=by rw [h]
theorem ck {k:IntKind} {a b:Int} (h:a=b):Ending.returned (i_ k a)=r_ (i_ k b):=by rw [h]
def lT (w:w_) (g len:Nat) (Z:Nat→Int):Prop:=g < w.heap.size∧ ∀ j,j < len * 3→w.cell? ⟨g,j,n_⟩=o_ (i_ j_ (Z j))
theorem lT.lt {w:w_} {g len:Nat} {Z:Nat→Int} (h:lT w g len Z):g < w.heap.size:=h.1
theorem lT.cell {w:w_} {g len:Nat} {Z:Nat→Int} (h:lT w g len Z) {i:Nat} (hi:i < len * 3):w.cell? ⟨g,i,n_⟩=o_ (i_ j_ (Z i)):=h.2 i hi
theorem lT.of_block {w w':w_} {g len:Nat} {Z:Nat→Int} (h:lT w g len Z) (e:w'.heap[g]? =w.heap[g]?):lT w' g len Z:=by
 exact ZbF
theorem lT.alloc {w:w_} {g len:Nat} {Z:Nat→Int} (h:lT w g len Z) (o:Obj):lT (w.alloc o) g len Z:=h.of_block (Below.heap_alloc w o g h.1)
theorem dx (n lo hi:Int) (w:w_):
  k_ J3 21 #[i_ j_ n,i_ j_ lo,i_ j_ hi] w fun e w'=>e=r_ (b_ (cv n lo hi))∧w'=w:=by
 by_cases h1:lo≤n
 ·by_cases h2:n≤hi
  ·go_enter func21,ntmps21
   exact Zbq
  ·go_enter func21,ntmps21
   exact Zbc
 ·go_enter func21,ntmps21
  exact Zbd
end
section
open Go
section
variable {P : Program} {ops : Array Oper} {Q : Exit → Act → w_ → Prop} {md : Region.Mode} {S : w_ → Prop}
def Comes (P : Program) (S : w_ → Prop) (v : v_) : Result Next → Prop
  | .ok (.value u) w' => u = v ∧ S w'
  | .ok .skip w' => v = undef ∧ S w'
  | .ok (.enter f args) w' => k_ P f args w' (fun e w'' => e =r_ v ∧ S w'')
  | _ => False
def Does (P : Program) (ops : Array Oper) (S : w_ → Prop) (o : Oper) (v : v_) (a : Act) : Prop :=
  (Region.wanted o (yielded ops a.tmps) = true ∧ ∀ w, S w → Comes P S v ((execOp a.eval o).run P w)) ∨
  (Region.wanted o (yielded ops a.tmps) = false ∧ v = undef)
theorem Does.of_same {o : Oper} {v : v_} {a a' : Act} (hy : Does P ops S o v a) (he : execOp a'.eval o = execOp a.eval o)
    (hw : Region.wanted o (yielded ops a'.tmps) = Region.wanted o (yielded ops a.tmps)) : Does P ops S o v a' := by
  unfold Does at *;rw [he, hw];exact hy
theorem Does.wpOp {i : Nat} {o : Oper} {v : v_} {a : Act} (hi : ops[i]? = o_ o) (hy : Does P ops S o v a)
    {K : Act → w_ → Prop} {w : w_} (hS : S w) (h : ∀ w', S w' → K (a.put o.dst v) w') : wpOp P ops Q i K a w := by
  unfold Go.wpOp;simp only [hi];rcases hy with ⟨hw, hv⟩ | ⟨hw, rfl⟩
  · simp only [hw, if_true]
    refine .inl ?_;have hc := hv w hS;unfold Oper.wp;generalize (execOp a.eval o).run P w = r at *;cases r with
    | ok n w' =>
      cases n <;> simp only [Comes, Oper.upon] at hc ⊢
      case value u =>
        obtain ⟨rfl, GH⟩ := hc;exact h _ GH
      case skip =>
        obtain ⟨rfl, GH⟩ := hc;exact h _ GH
      case enter f args =>
        refine adn hc fun e w'' he => ?_
        obtain ⟨rfl, GH⟩ := he;exact h _ GH
    | halt x w' => exact hc.elim
  · simp only [hw, J5, if_false]
    exact h _ hS
theorem xH {j : Nat} {oi oj : Oper} {v : v_} (hj : ops[j]? = o_ oj) (hap : oi.apart ops oj = true)
    (hsi : ∀ cs b, oi.op ≠ .select cs b) (hsj : ∀ cs b, oj.op ≠ .select cs b)
    (hQ : ∀ c a w, Q (.panic c) (a.put oi.dst v) w → Q (.panic c) a w) {K : Act → w_ → Prop} {a : Act} {w : w_}
    (hy : Does P ops S oi v a) (h : wpOp P ops Q j K (a.put oi.dst v) w) :
    wpOp P ops Q j (fun a' w' => Does P ops S oi v a' ∧ K (a'.put oi.dst v) w') a w := by
  obtain ⟨h1, h2, h3⟩ := Oper.apart_spec hap;have keep : ∀ (a : Act), Does P ops S oi v a → ∀ u, Does P ops S oi v (a.put oj.dst u) := fun a hy u =>
    hy.of_same (execOp_put oi hsi a oj.dst u h3) (wanted_put oi a oj.dst u h3)
  have keepD : ∀ d, Does P ops S oi v { a with defers := d :: a.defers } := fun d => hy.of_same rfl rfl
  unfold wpOp at *;simp only [hj] at *;rw [wanted_put oj a oi.dst v h1] at h
  split
  · rename_i hw
    simp only [hw, if_true] at h;rcases h with h | ⟨hasks, hlets⟩
    case inr => exact .inr ⟨by unfold Oper.asks at *; rw [execOp_put oj hsj a oi.dst v h1] at hasks; exact hasks, hlets⟩
    refine .inl ?_;unfold Oper.wp at *;rw [execOp_put oj hsj a oi.dst v h1] at h;generalize (execOp a.eval oj).run P w = r at *;cases r with
    | ok n w' =>
      cases n <;> simp only [Oper.upon] at h ⊢
      case value u => exact ⟨keep a hy u, by rw [← Qc a v u h2]; exact h⟩
      case skip => exact ⟨keep a hy _, by rw [← Qc a v undef h2]; exact h⟩
      case defer d =>
        refine ⟨keep _ (keepD d) _, ?_⟩;rw [← Qc _ v undef h2, ← Act.put_defers];exact h
      case enter f args =>
        refine adn h fun e w'' he => ?_
        cases e with
        | returned u => exact ⟨keep a hy u, by rw [← Qc a v u h2]; exact he⟩
        | panicked c => exact hQ _ _ _ he
        | outgrown => exact he
      case row row args => exact Rows.mono h fun u w'' he => ⟨keep a hy u, by rw [← Qc a v u h2]; exact he⟩
    | halt x w' =>
      cases x <;> simp only [Oper.upon] at h ⊢
      case panic u => exact hQ _ _ _ h
  · rename_i hw
    simp only [hw] at h;exact ⟨keep a hy _, by rw [← Qc a v undef h2]; exact h⟩
def gR (P : Program) (md : Region.Mode) (ops : Array Oper) (Q : Exit → Act → w_ → Prop) (S : w_ → Prop) : Nat → Array Bool → Act → Prop
  | 0, RV, a => Region.ready md ops RV = [] ∧ ∀ w, S w → Q .normal a w
  | fuel + 1, RV, a =>
    (Region.ready md ops RV = [] → ∀ w, S w → Q .normal a w) ∧
    ∀ i ∈ Region.ready md ops RV, ∀ w, S w → wpOp P ops Q i (fun a' w' => S w' ∧ gR P md ops Q S fuel (RV.setIfInBounds i true) a') a w
theorem pW : ∀ (fuel : Nat) (RV : Array Bool) (a : Act) (w : w_), S w → gR P md ops Q S fuel RV a → wpAny P md ops Q fuel RV a w
  | 0, _, _, w, hS, h => ⟨h.1, h.2 w hS⟩
  | fuel + 1, _, _, w, hS, h => ⟨fun h0 => h.1 h0 w hS, fun i hi => Qd (fun a' w' h' => pW fuel _ a' w' h'.1 h'.2) (h.2 i hi w hS)⟩
theorem yd {i : Nat} {oi : Oper} {v : v_} (hi : ops[i]? = o_ oi) (hsel : ∀ (j : Nat) (o : Oper) cs b, ops[j]? = o_ o → o.op ≠ .select cs b)
    (hQ : ∀ c a w, Q (.panic c) (a.put oi.dst v) w → Q (.panic c) a w) :
    ∀ (fuel : Nat) (RV : Array Bool) (a : Act),
      (∀ j oj, ops[j]? = o_ oj → j ≠ i → RV.getD j true = false → (∀ e ∈ oj.after, Region.binds md e = true → e.on ≠ i) → oi.apart ops oj = true) →
      i ∈ Region.ready md ops RV → Does P ops S oi v a →
      gR P md ops Q S fuel (RV.setIfInBounds i true) (a.put oi.dst v) → gR P md ops Q S (fuel + 1) RV a := by
  intro fuel
  induction fuel with
  | zero =>
    intro RV a _ hr hy H;refine ⟨fun h => (by rw [h] at hr; cases hr), fun j hj w hS => ?_⟩;by_cases hji : j = i
    · subst hji
      exact ZbX
    · have := Qe hj hji
      rw [H.1] at this;cases this
  | succ fuel ih =>
    intro RV a hfree hr hy H;refine ⟨fun h => (by rw [h] at hr; cases hr), fun j hj w hS => ?_⟩;by_cases hji : j = i
    · subst hji
      exact ZbX
    · have h1 := H.2 j (Qe hj hji) w hS
      obtain ⟨hjun, oj, hoj, hall⟩ := Qf.1 hj;have hnot : ∀ e ∈ oj.after, Region.binds md e = true → e.on ≠ i := fun e he hb heq => by
        exact ZaG
      have h2 := xH hoj (hfree j oj hoj hji hjun hnot) (fun cs b => hsel i oi cs b hi) (fun cs b => hsel j oj cs b hoj) hQ hy h1;have hfree' : ∀ k ok, ops[k]? = o_ ok → k ≠ i → (RV.setIfInBounds j true).getD k true = false →
          (∀ e ∈ ok.after, Region.binds md e = true → e.on ≠ i) → oi.apart ops ok = true := fun k ok hk hki hun hno => by
        exact Zbs
      refine Qd (fun a' w' h3 => ⟨h3.2.1, ih (RV.setIfInBounds j true) a' hfree' (Qe hr (Ne.symm hji)) h3.1 ?_⟩) h2;rw [Array.setIfInBounds_comm _ _ hji];exact h3.2.2
theorem Fq {i : Nat} {oi : Oper} {v : v_} {fuel : Nat} {RV : Array Bool} {a : Act} (hi : ops[i]? = o_ oi)
    (hs : Region.noSelect ops = true) (hf : Region.free md ops RV i = true) (hr : (Region.ready md ops RV).contains i = true)
    (hQ : ∀ c a w, Q (.panic c) (a.put oi.dst v) w → Q (.panic c) a w) (hy : Does P ops S oi v a)
    (h : gR P md ops Q S fuel (RV.setIfInBounds i true) (a.put oi.dst v)) : gR P md ops Q S (fuel + 1) RV a :=
  yd hi (Region.noSelect_spec hs) hQ fuel RV a (Region.free_spec hi hf) (by simpa using hr) hy h
theorem IK {i : Nat} (d : Option Tmp) {oi : Oper} {v : v_} {fuel : Nat} {RV : Array Bool} {a : Act} (hi : ops[i]? = o_ oi) (hd : oi.dst = d)
    (hs : Region.noSelect ops = true) (hf : Region.free md ops RV i = true) (hr : (Region.ready md ops RV).contains i = true)
    (hQ : ∀ c a w, Q (.panic c) (a.put d v) w → Q (.panic c) a w) (hy : Does P ops S oi v a)
    (h : gR P md ops Q S fuel (RV.setIfInBounds i true) (a.put d v)) : gR P md ops Q S (fuel + 1) RV a := by
  subst hd;exact Fq hi hs hf hr hQ hy h
def Jj (md : Region.Mode) (ops : Array Oper) (RV : Array Bool) (i : Nat) (oi : Oper) (d : Option Tmp) : Bool := decide (oi.dst = d) && Region.noSelect ops && Region.free md ops RV i && (Region.ready md ops RV).contains i
theorem tm (i : Nat) (d : Option Tmp) {oi : Oper} {v : v_} {fuel : Nat} {RV : Array Bool} {a : Act} (hi : ops[i]? = o_ oi) (hc : Jj md ops RV i oi d = true)
    (hQ : ∀ c a w, Q (.panic c) (a.put d v) w → Q (.panic c) a w) (hy : Does P ops S oi v a)
    (h : gR P md ops Q S fuel (RV.setIfInBounds i true) (a.put d v)) : gR P md ops Q S (fuel + 1) RV a := by
  simp only [Jj, J7, decide_eq_true_eq] at hc;exact IK d hi hc.1.1.1 hc.1.1.2 hc.1.2 hc.2 hQ hy h
theorem pt (a : Act) (d : Tmp) (v : v_) : a.put (o_ d) v = { a with tmps := a.tmps.setIfInBounds d v } := rfl
theorem sb {α : Type} {l : List α} {i : Nat} {x : α} : l.toArray.setIfInBounds i x = (l.set i x).toArray := by simp
theorem s0 {α : Type} {l : List α} {x y : α} : (x :: l).set 0 y = y :: l := rfl
theorem s1 {α : Type} {l : List α} {x y : α} {n : Nat} : (x :: l).set (n + 1) y = x :: l.set n y := rfl
theorem bk {RV : Array Bool} {a : Act} (hr : Region.ready md ops RV = []) (h : ∀ w, S w → Q .normal a w) : ∀ fuel, gR P md ops Q S fuel RV a
  | 0 => ⟨hr, h⟩
  | _ + 1 => ⟨fun _ => h, by rw [hr]; simp⟩
theorem aT {id : Nat} {a : Act} {w : w_} (S : w_ → Prop) (hm : P.follows .mixedOrders = true) (hS : S w.drew)
    (h : gR P .any ops Q S ops.size (Array.replicate ops.size false) a) : (Code.region id ops true).wp P Q a w :=
  wp_region_any hm (pW _ _ _ _ hS h)
/-! ### A region whose last operation may turn what the others keep -/
def qe (md : Region.Mode) (ops : Array Oper) (RV : Array Bool) : Prop := ∀ (j : Nat) (o : Oper), ops[j]? = o_ o → RV.getD j false = true → ∀ e ∈ o.after, Region.binds md e = true → RV.getD e.on false = true
def tM (md : Region.Mode) (ops : Array Oper) (RV : Array Bool) : Bool :=
  (List.range ops.size).all fun j => !RV.getD j false || ((ops[j]?).map fun o => o.after.all fun e => !Region.binds md e || RV.getD e.on false).getD true
theorem yp {RV : Array Bool} (h : tM md ops RV = true) : qe md ops RV := fun j o ho hl e he hb => by
  simp only [tM, PZ, List.mem_range] at h;have h1 := h j (J2.1 ho).1;rw [hl, ho] at h1;simp only [Bool.not_true, Qg, J9, Ka, aeb, Kb, PR] at h1;rcases h1 e he with h2 | h2
  · rw [hb] at h2; cases h2
  · exact h2
theorem qe.set {RV : Array Bool} {j : Nat} (h : qe md ops RV) (hj : j ∈ Region.ready md ops RV) : qe md ops (RV.setIfInBounds j true) := fun k o ho hl e he hb => by
  obtain ⟨_, o', ho', hall⟩ := Qf.1 hj;by_cases hjk : j = k
  · subst hjk
    rw [ho'] at ho;cases ho;exact getD_set_true (hall e he hb)
  · rw [getD_set_ne false hjk] at hl
    exact getD_set_true (h k o ho hl e he hb)
def preB (md : Region.Mode) (ops : Array Oper) : Nat → Nat → Nat → Bool
  | 0, x, i => x == i
  | n + 1, x, i => x == i || ((ops[x]?).map fun o => o.after.any fun e => Region.binds md e && preB md ops n e.on i).getD false
theorem vi {RV : Array Bool} (hc : qe md ops RV) {i : Nat} : ∀ (n x : Nat), RV.getD x false = true → preB md ops n x i = true → RV.getD i false = true
  | 0, x, hx, h => by
    have e : x = i := by simpa [preB] using h
    rw [← e];exact hx
  | n + 1, x, hx, h => by
    simp only [preB, Kb, beq_iff_eq] at h;rcases h with e | h
    · rw [← e]
      exact hx
    · cases ho : ops[x]? with
      | none => rw [ho] at h; simp at h
      | some o =>
        rw [ho] at h;simp only [J9, Ka, Array.any_eq_true'] at h;obtain ⟨e, he, h2⟩ := h;simp only [J7] at h2;exact vi hc n e.on (hc x o ho hx e he h2.1) h2.2
theorem rV {RV : Array Bool} (hc : qe md ops RV) {i L n : Nat} (hp : preB md ops n L i = true) (hne : ¬ i = L) (hi : RV.getD i true = false) : L ∉ Region.ready md ops RV := fun hL => by
  obtain ⟨_, o, ho, hall⟩ := Qf.1 hL;have hi' : ¬ RV.getD i false = true := fun h => by
    rcases Nat.lt_or_ge i RV.size with h' | h'
    · simp [h'] at h hi
      rw [h] at hi;cases hi
    · simp [Array.getElem?_eq_none h'] at h
  cases n with
  | zero => exact hne (by have e : L = i := by simpa [preB] using hp
                          exact e.symm)
  | succ n =>
    simp only [preB, Kb, beq_iff_eq] at hp;rcases hp with e | h
    · exact hne e.symm
    · rw [ho] at h
      simp only [J9, Ka, Array.any_eq_true'] at h;obtain ⟨e, he, h2⟩ := h;simp only [J7] at h2;exact hi' (vi hc n e.on (hall e he h2.1) h2.2)
def kS (P : Program) (md : Region.Mode) (ops : Array Oper) (Q : Exit → Act → w_ → Prop) (S : w_ → Prop) (L : Nat) : Nat → Array Bool → Act → Prop
  | 0, _, _ => False
  | fuel + 1, RV, a =>
    Region.ready md ops RV ≠ [] ∧
    ∀ i ∈ Region.ready md ops RV, ∀ w, S w →
      (i = L ∧ Region.ready md ops (RV.setIfInBounds L true) = [] ∧ wpOp P ops Q L (fun a' w' => Q .normal a' w') a w) ∨
      (i ≠ L ∧ wpOp P ops Q i (fun a' w' => S w' ∧ kS P md ops Q S L fuel (RV.setIfInBounds i true) a') a w)
theorem pM {L : Nat} : ∀ (fuel : Nat) (RV : Array Bool) (a : Act) (w : w_), S w → kS P md ops Q S L fuel RV a → wpAny P md ops Q fuel RV a w
  | 0, _, _, _, _, h => h.elim
  | fuel + 1, RV, a, w, hS, h => ⟨fun h0 => absurd h0 h.1, fun i hi => by
    rcases h.2 i hi w hS with ⟨rfl, h1, h2⟩ | ⟨_, h2⟩
    · exact Qd (fun a' w' h' => wpAny_done h1 h' fuel) h2
    · exact Qd (fun a' w' h' => pM fuel _ a' w' h'.1 h'.2) h2⟩
theorem yw {L i n : Nat} {oi : Oper} {v : v_} (hi : ops[i]? = o_ oi) (hsel : ∀ (j : Nat) (o : Oper) cs b, ops[j]? = o_ o → o.op ≠ .select cs b)
    (hQ : ∀ c a w, Q (.panic c) (a.put oi.dst v) w → Q (.panic c) a w) (hp : preB md ops n L i = true) (hne : ¬ i = L) :
    ∀ (fuel : Nat) (RV : Array Bool) (a : Act), qe md ops RV →
      (∀ j oj, ops[j]? = o_ oj → j ≠ i → RV.getD j true = false → (∀ e ∈ oj.after, Region.binds md e = true → e.on ≠ i) → oi.apart ops oj = true) →
      i ∈ Region.ready md ops RV → Does P ops S oi v a →
      kS P md ops Q S L fuel (RV.setIfInBounds i true) (a.put oi.dst v) → kS P md ops Q S L (fuel + 1) RV a := by
  intro fuel
  induction fuel with
  | zero => intro RV a _ _ _ _ H; exact H.elim
  | succ fuel ih =>
    intro RV a hcl hfree hr hy H;refine ⟨fun h => (by rw [h] at hr; cases hr), fun j hj w hS => ?_⟩;have hjL : ¬ j = L := fun e => by
      subst e;exact rV hcl hp hne (Qf.1 hr).1 hj
    refine .inr ⟨hjL, ?_⟩;by_cases hji : j = i
    · subst hji
      exact ZbX
    · have h1 := (H.2 j (Qe hj hji) w hS).resolve_left (fun h => hjL h.1)
      obtain ⟨hjun, oj, hoj, hall⟩ := Qf.1 hj;have hnot : ∀ e ∈ oj.after, Region.binds md e = true → e.on ≠ i := fun e he hb heq => by
        exact ZaG
      have h2 := xH hoj (hfree j oj hoj hji hjun hnot) (fun cs b => hsel i oi cs b hi) (fun cs b => hsel j oj cs b hoj) hQ hy h1.2;have hfree' : ∀ k ok, ops[k]? = o_ ok → k ≠ i → (RV.setIfInBounds j true).getD k true = false →
          (∀ e ∈ ok.after, Region.binds md e = true → e.on ≠ i) → oi.apart ops ok = true := fun k ok hk hki hun hno => by
        exact Zbs
      refine Qd (fun a' w' h3 => ⟨h3.2.1, ih (RV.setIfInBounds j true) a' (hcl.set hj) hfree' (Qe hr (Ne.symm hji)) h3.1 ?_⟩) h2;rw [Array.setIfInBounds_comm _ _ hji];exact h3.2.2
theorem I1 {L i : Nat} (n : Nat) (d : Option Tmp) {oi : Oper} {v : v_} {fuel : Nat} {RV : Array Bool} {a : Act} (hi : ops[i]? = o_ oi) (hd : oi.dst = d)
    (hs : Region.noSelect ops = true) (hf : Region.free md ops RV i = true) (hr : (Region.ready md ops RV).contains i = true) (hp : (preB md ops n L i && (i != L) && tM md ops RV) = true)
    (hQ : ∀ c a w, Q (.panic c) (a.put d v) w → Q (.panic c) a w) (hy : Does P ops S oi v a)
    (h : kS P md ops Q S L fuel (RV.setIfInBounds i true) (a.put d v)) : kS P md ops Q S L (fuel + 1) RV a := by
  subst hd;simp only [J7, bne_iff_ne, ne_eq] at hp;exact yw hi (Region.noSelect_spec hs) hQ hp.1.1 hp.1.2 fuel RV a (yp hp.2) (Region.free_spec hi hf) (by simpa using hr) hy h
def lsB (md : Region.Mode) (ops : Array Oper) (RV : Array Bool) (i L n : Nat) (oi : Oper) (d : Option Tmp) : Bool := Jj md ops RV i oi d && (preB md ops n L i && (i != L) && tM md ops RV)
theorem ls {L : Nat} (i n : Nat) (d : Option Tmp) {oi : Oper} {v : v_} {fuel : Nat} {RV : Array Bool} {a : Act} (hi : ops[i]? = o_ oi) (hc : lsB md ops RV i L n oi d = true)
    (hQ : ∀ c a w, Q (.panic c) (a.put d v) w → Q (.panic c) a w) (hy : Does P ops S oi v a)
    (h : kS P md ops Q S L fuel (RV.setIfInBounds i true) (a.put d v)) : kS P md ops Q S L (fuel + 1) RV a := by
  simp only [lsB, Jj, J7, decide_eq_true_eq] at hc;exact I1 n d hi hc.1.1.1.1 hc.1.1.1.2 hc.1.1.2 hc.1.2 (by simp only [J7]; exact hc.2) hQ hy h
theorem fL {L : Nat} {oL : Oper} {fuel : Nat} {RV : Array Bool} {a : Act} (hi : ops[L]? = o_ oL) (hr : Region.ready md ops RV = [L]) (hr' : Region.ready md ops (RV.setIfInBounds L true) = [])
    (hw : Region.wanted oL (yielded ops a.tmps) = true) (h : ∀ w, S w → oL.wp P a w (fun a' w' => Q .normal a' w') Q) : kS P md ops Q S L (fuel + 1) RV a := by
  refine ⟨by rw [hr]; simp, fun i hi' w hS => ?_⟩;rw [hr] at hi';have e : i = L := by simpa using hi'
  refine .inl ⟨e, hr', ?_⟩;unfold wpOp;simp only [hi, hw, if_true];exact .inl (h w hS)
theorem eD {id : Nat} {a : Act} {w : w_} (S : w_ → Prop) (L : Nat) (hm : P.follows .mixedOrders = true) (hS : S w.drew)
    (h : kS P .any ops Q S L ops.size (Array.replicate ops.size false) a) : (Code.region id ops true).wp P Q a w :=
  wp_region_any hm (pM _ _ _ _ hS h)
theorem np {o : Oper} {a : Act} (h : Region.wanted o (yielded ops a.tmps) = false) : Does P ops S o undef a := .inr ⟨h, rfl⟩
theorem bV {o : Oper} {v : v_} {a : Act} (hw : Region.wanted o (yielded ops a.tmps) = true) (h : ∀ w, S w → (execOp a.eval o).run P w = .ok (.value v) w) : Does P ops S o v a :=
  .inl ⟨hw, fun w hS => by rw [h w hS]; exact ⟨rfl, hS⟩⟩
theorem iZ {o : Oper} {v : v_} {a : Act} {f : FuncId} {args : Array v_} (hw : Region.wanted o (yielded ops a.tmps) = true) (h : ∀ w, S w → (execOp a.eval o).run P w = .ok (.enter f args) w)
    (hc : ∀ w, S w → k_ P f args w (fun e w' => e =r_ v ∧ S w')) : Does P ops S o v a :=
  .inl ⟨hw, fun w hS => by rw [h w hS]; exact hc w hS⟩
end
end
section
open Go.RowKit
def gH (c:UInt8):Bool:=decide (32≤(c.toNat:Int)) && decide ((c.toNat:Int)≤126) && !decide ((c.toNat:Int)=59)
def bw (s:ByteArray):Bool:=decide (s.size≤20) && s.data.toList.all gH
theorem Et (s:ByteArray) (k:Nat) (h:k < s.size):s.data.toList.take (k+1)=s.data.toList.take k ++ [s[k]] :=by
 rw [QE (by simpa using h)]; rfl
theorem Bv {s:ByteArray} {k:Nat} (h:k < s.size) (ha:(s.data.toList.take k).all gH=true) (hb:gH s[k] =true):(s.data.toList.take (k+1)).all gH=true:=by
 rw [Et s k h,List.all_append,ha]; simp [hb]
theorem D7 {s:ByteArray} {k:Nat} (h:k < s.size) (hb:gH s[k] =false):s.data.toList.all gH=false:=by
 rw [List.all_eq_false];exact ⟨s[k], by rw [show s[k] = s.data.toList[k]'(by simpa using h) from rfl]; exact PJ _, by simp [hb]⟩
theorem BA (s:ByteArray) {k:Nat} (h:s.size≤k):s.data.toList.take k=s.data.toList:=KF (by simpa using h)
theorem xo {c:UInt8} (h:(c.toNat:Int) < 32):gH c=false:=by simp [gH]; omega
theorem uO {c:UInt8} (h:126 < (c.toNat:Int)):gH c=false:=by simp [gH]; omega
theorem uj {c:UInt8} (h:(c.toNat:Int)=59):gH c=false:=by simp [gH]; omega
theorem xR {c:UInt8} (h1: ¬ (c.toNat:Int) < 32) (h2: ¬ 126 < (c.toNat:Int)) (h3: ¬ (c.toNat:Int)=59):gH c=true:=by simp [gH]; omega
theorem jC (s:ByteArray) (w:w_) (hs:s.size≤1048576):
  k_ J3 98 #[t_ s] w fun e w'=>e=r_ (b_ (bw s))∧w'=w:=by
 go_enter func98,ntmps98
 go_wp2
 go_loop [3] (fun i=> ∃ k:Nat,k≤s.size∧i=i_ j_ k∧(s.data.toList.take k).all gH=true) (fun i=>s.size - (intOf i).toNat)
 case atStart=>exact ⟨0,Ky _,rfl,rfl⟩
 case round=>
  obtain ⟨k,hk,rfl,hall⟩:=hrel;have HA:Hid ((s.data.toList.take k).all gH=true):=hall;clear hall;by_cases hlt:k < s.size
  ·exact ue
  ·have HA':Hid (s.data.toList.all gH=true):=by have:=HA.I; rwa [BA s (by omega)] at this
   go_wp2;go_ret;exact ⟨al (by rw [Bool.eq_iff_iff]; simp [bw,HA'.I]; omega),rfl⟩
theorem iM (s:ByteArray) (w:w_) (hs:s.size≤1048576):
  k_ J3 262 #[t_ s] w fun e w'=>e=r_ (b_ (bw s))∧w'=w:=by
 by_cases hl:20 < s.size
 ·have hl':(20:Int) < (s.size:Int):=by omega
  go_enter func262,ntmps262
  go_wp2;go_ret;exact ⟨al (by simp [bw]; intro h; omega),rfl⟩
 ·have hl': ¬ (20:Int) < (s.size:Int):=by omega
  go_enter func262,ntmps262
  go_wp2
  go_loop [9] (fun i=> ∃ k:Nat,k≤s.size∧i=i_ j_ k∧(s.data.toList.take k).all gH=true) (fun i=>s.size - (intOf i).toNat)
  case atStart=>exact ⟨0,Ky _,rfl,rfl⟩
  case round=>
   obtain ⟨k,hk,rfl,hall⟩:=hrel;have HA:Hid ((s.data.toList.take k).all gH=true):=hall;clear hall;by_cases hlt:k < s.size
   ·exact ue
   ·have HA':Hid (s.data.toList.all gH=true):=by have:=HA.I; rwa [BA s (by omega)] at this
    have hd:decide (s.size≤20)=true:=by simp; omega
    go_wp2;go_ret;exact ⟨al (by simp only [bw,HA'.I,hd]; rfl),rfl⟩
def xe (K N M:Nat→Int) (S:Nat→ByteArray) (j:Nat):v_:=if j % 4=0 then i_ j_ (K (j / 4)) else if j % 4=1 then i_ j_ (N (j / 4)) else if j % 4=2 then i_ j_ (M (j / 4)) else t_ (S (j / 4))
theorem opV_0 (K N M:Nat→Int) (S:Nat→ByteArray) (i:Nat):xe K N M S (i * 4)=i_ j_ (K i):=by
 have e:i * 4 % 4=0:=by omega
 have d:i * 4 / 4=i:=by omega
 simp [xe,d]
theorem opV_1 (K N M:Nat→Int) (S:Nat→ByteArray) (i:Nat):xe K N M S (i * 4+1)=i_ j_ (N i):=by
 have e:(i * 4+1) % 4=1:=by omega
 have d:(i * 4+1) / 4=i:=by omega
 simp [xe,e,d]
theorem opV_2 (K N M:Nat→Int) (S:Nat→ByteArray) (i:Nat):xe K N M S (i * 4+2)=i_ j_ (M i):=by
 have e:(i * 4+2) % 4=2:=by omega
 have d:(i * 4+2) / 4=i:=by omega
 simp [xe,e,d]
theorem opV_3 (K N M:Nat→Int) (S:Nat→ByteArray) (i:Nat):xe K N M S (i * 4+3)=t_ (S i):=by
 have e:(i * 4+3) % 4=3:=by omega
 have d:(i * 4+3) / 4=i:=by omega
 simp [xe,e,d]
end
section
open Go
section
variable {P:Program} {md:Region.Mode} {ops:Array Oper} {Q:Exit→Act→w_→Prop} {S:w_→Prop}
theorem ty {oi:Oper} {v:v_} {fuel:Nat} {RV:Array Bool} {a:Act} (d:Option Tmp) (hi:ops[ops.size - (fuel+1)]? =o_ oi) (_hd:oi.dst=d) (hc:Jj md ops RV (ops.size - (fuel+1)) oi d=true)
  (hQ: ∀ c a w,Q (.panic c) (a.put d v) w→Q (.panic c) a w) (hy:Does P ops S oi v a)
  (h:gR P md ops Q S fuel (RV.setIfInBounds (ops.size - (fuel+1)) true) (a.put d v)):gR P md ops Q S (fuel+1) RV a:=tm (ops.size - (fuel+1)) d hi hc hQ hy h
theorem ly {L:Nat} (n:Nat) {oi:Oper} {v:v_} {fuel:Nat} {RV:Array Bool} {a:Act} (d:Option Tmp) (hi:ops[ops.size - (fuel+1)]? =o_ oi) (_hd:oi.dst=d) (hc:lsB md ops RV (ops.size - (fuel+1)) L n oi d=true)
  (hQ: ∀ c a w,Q (.panic c) (a.put d v) w→Q (.panic c) a w) (hy:Does P ops S oi v a)
  (h:kS P md ops Q S L fuel (RV.setIfInBounds (ops.size - (fuel+1)) true) (a.put d v)):kS P md ops Q S L (fuel+1) RV a:=ls (ops.size - (fuel+1)) n d hi hc hQ hy h
theorem yl {oi:Oper} {v:v_} {fuel:Nat} {RV:Array Bool} {a:Act} {d:Tmp} (hy: ∀ w,S w→(execOp a.eval oi).run P w= .ok (.value v) w)
  (h:gR P md ops Q S fuel (RV.setIfInBounds (ops.size - (fuel+1)) true) (a.put (o_ d) v)) (hi:ops[ops.size - (fuel+1)]? =o_ oi:=by rfl) (_hd:oi.dst=o_ d:=by rfl) (hc:Jj md ops RV (ops.size - (fuel+1)) oi (o_ d)=true:=by kernel_rfl)
  (hQ: ∀ c a w,Q (.panic c) (a.put (o_ d) v) w→Q (.panic c) a w:=by exact fun _ _ _ h=>h) (hw:Region.wanted oi (yielded ops a.tmps)=true:=by kernel_rfl):gR P md ops Q S (fuel+1) RV a:=tm (ops.size - (fuel+1)) (o_ d) hi hc hQ (bV hw hy) h
theorem PI {oi:Oper} {v:v_} {fuel:Nat} {RV:Array Bool} {a a':Act} {d:Tmp} (h:gR P md ops Q S fuel (RV.setIfInBounds (ops.size - (fuel+1)) true) a')
  (hi:ops[ops.size - (fuel+1)]? =o_ oi:=by rfl) (hd:oi.dst=o_ d:=by rfl) (hy: ∀ w,S w→(execOp a.eval oi).run P w= .ok (.value v) w:=by intro w0 hS0; go_simp; try with_reducible rfl) (hc:Jj md ops RV (ops.size - (fuel+1)) oi (o_ d)=true:=by kernel_rfl)
  (hQ: ∀ c a w,Q (.panic c) (a.put (o_ d) v) w→Q (.panic c) a w:=by exact fun _ _ _ h=>h) (hw:Region.wanted oi (yielded ops a.tmps)=true:=by kernel_rfl) (ha:a.put (o_ d) v=a':=by simp only [pt,sb,s0,s1]; rfl):gR P md ops Q S (fuel+1) RV a:=
 yl hy ZdD hi hd hc hQ hw
theorem agj {oi:Oper} {v:v_} {fuel:Nat} {RV:Array Bool} {a a':Act} {d:Tmp} (h:gR P md ops Q S fuel (RV.setIfInBounds (ops.size - (fuel+1)) true) a')
  (hi:ops[ops.size - (fuel+1)]? =o_ oi:=by rfl) (hd:oi.dst=o_ d:=by rfl) (hy: ∀ w,S w→(execOp a.eval oi).run P w= .ok (.value v) w:=by intro w0 hS0; (first | subst hS0 | obtain ⟨⟨q0,q1,q2,q3,q4,q5,q6,q7,q8,q9,kY,kV,lB,lz,Ch⟩,hH⟩:=hS0 | obtain ⟨⟨q0,q1,q2,q3,q4,q5,q6,q7⟩,hH⟩:=hS0 | obtain ⟨⟨q0,q1,q2,q3,q4,q5⟩,hH⟩:=hS0 | obtain ⟨⟨q0,q1,q2,q3,q4⟩,hH⟩:=hS0); go_simp; try with_reducible rfl) (hc:Jj md ops RV (ops.size - (fuel+1)) oi (o_ d)=true:=by kernel_rfl)
  (hQ: ∀ c a w,Q (.panic c) (a.put (o_ d) v) w→Q (.panic c) a w:=by exact fun _ _ _ h=>h) (hw:Region.wanted oi (yielded ops a.tmps)=true:=by kernel_rfl) (ha:a.put (o_ d) v=a':=by simp only [pt,sb,s0,s1]; rfl):gR P md ops Q S (fuel+1) RV a:=
 yl hy ZdD hi hd hc hQ hw
theorem nl {oi:Oper} {fuel:Nat} {RV:Array Bool} {a:Act} {d:Tmp}
  (h:gR P md ops Q S fuel (RV.setIfInBounds (ops.size - (fuel+1)) true) (a.put (o_ d) undef)) (hi:ops[ops.size - (fuel+1)]? =o_ oi:=by rfl) (_hd:oi.dst=o_ d:=by rfl) (hc:Jj md ops RV (ops.size - (fuel+1)) oi (o_ d)=true:=by kernel_rfl)
  (hQ: ∀ c a w,Q (.panic c) (a.put (o_ d) undef) w→Q (.panic c) a w:=by exact fun _ _ _ h=>h) (hw:Region.wanted oi (yielded ops a.tmps)=false:=by kernel_rfl):gR P md ops Q S (fuel+1) RV a:=tm (ops.size - (fuel+1)) (o_ d) hi hc hQ (np hw) h
theorem cl (v:v_) (f:FuncId) (args:Array v_) {oi:Oper} {fuel:Nat} {RV:Array Bool} {a:Act} {d:Tmp} (hy: ∀ w,S w→(execOp a.eval oi).run P w= .ok (.enter f args) w) (hf: ∀ w,S w→k_ P f args w (fun e w'=>e=r_ v∧S w'))
  (h:gR P md ops Q S fuel (RV.setIfInBounds (ops.size - (fuel+1)) true) (a.put (o_ d) v)) (hi:ops[ops.size - (fuel+1)]? =o_ oi:=by rfl) (_hd:oi.dst=o_ d:=by rfl) (hc:Jj md ops RV (ops.size - (fuel+1)) oi (o_ d)=true:=by kernel_rfl)
  (hQ: ∀ c a w,Q (.panic c) (a.put (o_ d) v) w→Q (.panic c) a w:=by exact fun _ _ _ h=>h) (hw:Region.wanted oi (yielded ops a.tmps)=true:=by kernel_rfl):gR P md ops Q S (fuel+1) RV a:=tm (ops.size - (fuel+1)) (o_ d) hi hc hQ (iZ hw hy hf) h
end
end
section
open Go.RowKit
def Ij (n:Int):ByteArray:=⟨(Lib.itoa n).toArray⟩
theorem F7 {n:Int} (h:0≤n):Lib.itoa n=Lib.decDigits n.toNat:=by
 unfold Lib.itoa;rw [if_neg (by omega)]
theorem DX: ∀ (k u:Nat),u < 10 ^ (k+1)→(Lib.decDigits u).length≤k+1
 | 0,u,h=>by rw [Lib.decDigits,dif_pos (by simpa using h)]; simp
 | k+1,u,h=>by
  by_cases h1:u < 10
  ·rw [Lib.decDigits,dif_pos h1]; simp
  ·rw [Lib.decDigits,dif_neg h1]
   have:=DX k (u / 10) (by rw [Nat.pow_succ] at h; omega)
   simp; omega
theorem Fk {n:Int} (h:n≤9999999999):(Lib.decDigits n.toNat).length≤10:=DX 9 _ ZcS
theorem GP {a n:Int} {s:ByteArray} (h10:10≤a) (h:Lib.decDigits a.toNat ++ s.data.toList=Lib.decDigits n.toNat):
  Lib.decDigits (a / 10).toNat ++ ((⟨#[UInt8.ofNat (48+a % 10).toNat]⟩:ByteArray) ++ s).data.toList=Lib.decDigits n.toNat:=by
 rw [← h,Lib.decDigits.eq_def a.toNat,dif_neg (by omega)];have e1:(a / 10).toNat=a.toNat / 10:=by omega
 have e2:(48+a % 10).toNat=48+a.toNat % 10:=by omega
 simp [e1,e2,ByteArray.data_append]
theorem Gx (W:w_) (c:Int):(convert 186 9 (s_ (o_ ⟨W.heap.size,0,n_⟩) 1 1)).run J3 (W.alloc (c_ #[i_ .u8 c] 5))= .ok (t_ ⟨#[UInt8.ofNat c.toNat]⟩) (W.alloc (c_ #[i_ .u8 c] 5)):=by
 rw [run_convert_bytes_string _ 186 9 5 _ 1 1 underlying186 underlying5 underlying9];rw [run_bytesToString _ ⟨W.heap.size,0,n_⟩ 1 1 [c] (by simp [go_sem])];rfl
theorem Bl {a b:ByteArray} (h:a.data.toList=b.data.toList):a=b:=by
 apply ByteArray.ext;apply Array.ext';exact h
theorem Ep (n:Int):(Ij n).data.toList=Lib.itoa n:=by simp [Ij]
def cu (n:Int):ByteArray:=⟨#[109]⟩ ++ Ij n
def Bw (a:Int):List UInt8:=if a=0 then [] else Lib.decDigits a.toNat
theorem Eh {a n:Int} {s:ByteArray} (h0:0 < a) (h:Bw a ++ s.data.toList=Lib.decDigits n.toNat):Bw (a / 10) ++ ((⟨#[UInt8.ofNat (48+a % 10).toNat]⟩:ByteArray) ++ s).data.toList=Lib.decDigits n.toNat:=by
 rw [Bw,if_neg (by omega)] at h;have e2:(48+a % 10).toNat=48+a.toNat % 10:=by omega
 by_cases h10:10≤a
 ·rw [Bw,if_neg (by omega)]
  exact GP h10 h
 ·rw [Bw,if_pos (by omega),← h,Lib.decDigits,dif_pos (by omega),e2,Nat.mod_eq_of_lt (by omega)]
  simp [ByteArray.data_append]
theorem Gt {n:Int} {s:ByteArray} (h0:1≤n) (h:s.data.toList=Lib.decDigits n.toNat):(⟨#[109]⟩:ByteArray) ++ s=cu n:=by
 have:s=Ij n:=Bl (by rw [h,Ep,F7 (by omega)])
 rw [this,cu]
theorem fh (n:Int) (hn0:1≤n) (hn:n≤99999999) (w:w_):
  k_ J3 74 #[i_ j_ n] w fun e w'=>e=r_ (t_ (cu n))∧B_ w.heap.size w w':=by
 have h0: ¬ n≤0:=by omega
 have hcv:=Gx;have HN:Hid (1≤n∧n≤99999999):=⟨hn0,hn⟩
 clear hn0 hn
 go_enter func74,ntmps74
 go_wp2;clear h0
 go_loopw [0,3] (fun i t wr=> ∃ (a:Int) (s:ByteArray),i=i_ j_ a∧t=t_ s∧Hid (0≤a∧a≤n∧Bw a ++ s.data.toList=Lib.decDigits n.toNat)∧B_ w.heap.size w wr) (fun i _ _=>(intOf i).toNat)
 case atStart=>exact ⟨n,⟨#[]⟩,rfl,rfl,⟨by have:=HN.I; omega,Int.le_refl _,by rw [Bw,if_neg (by have:=HN.I; omega)]; simp⟩,Kp _ _⟩
 case round=>
  obtain ⟨a,s,rfl,rfl,HD,kj⟩:=hrel;have hs: ¬ 9223372036854775807 < 1+s.size:=by
   have h1:=congrArg List.length HD.I.2.2;have h2:=Fk (n:=n) (by have:=HN.I; omega);have h3:s.data.toList.length=s.size:=by simp
   rw [Lf] at h1;omega
  by_cases h10:0 < a
  ·have e1:wrap64 (48+a.tmod 10) % 256=48+a % 10:=by
    have:=HD.I
    rw [Int.tmod_eq_emod_of_nonneg (by omega)];unfold wrap64; omega
   have e2:a.tdiv 10=a / 10:=Int.tdiv_eq_ediv_of_nonneg (by have:=HD.I; omega);have e3:wrap64 (a / 10)=a / 10:=by have:=HD.I; have:=HN.I; unfold wrap64; omega
   go_wp2;go_roundw
   case rel=>
    refine ⟨a / 10,_,by rw [e3],rfl,?_,kj.alloc kj.size _⟩;have HD':=HD.I;refine ⟨by omega,by omega,?_⟩;exact Eh h10 HD'.2.2
   case measure=>simp only [intOf]; have:=HD.I; omega
  ·have HS:Hid (s.data.toList=Lib.decDigits n.toNat):=by
    have h:=HD.I;have h2:=h.2.2;rw [Bw,if_pos (by omega)] at h2;rw [List.nil_append] at h2;exact h2
   go_wp2;go_ret;refine ⟨?_,kj⟩
   show Ending.returned (t_ ((⟨#[109]⟩:ByteArray) ++ s))=_
   rw [Gt HN.I.1 HS.I]
theorem GA (k n m:Int) (s:ByteArray) (left:Int) (w:w_) (hl:s.size≤maxLen) (h0:0≤left) (h1:left≤1048576):
  k_ J3 139 #[a_ #[i_ j_ k,i_ j_ n,i_ j_ m,t_ s],i_ j_ left] w fun e w'=>e=r_ (i_ j_ (szOf left s.size))∧B_ w.heap.size w w':=by
 unfold maxLen at hl;by_cases h:left < s.size
 ·have h':left - (s.size:Int) < 0:=by omega
  go_enter func139,ntmps139
  go_wp2;go_ret;exact ⟨ck (Bj h).symm,by go_grown⟩
 ·have h': ¬ left - (s.size:Int) < 0:=by omega
  go_enter func139,ntmps139
  go_wp2;go_ret;exact ⟨ck (AQ (by omega)).symm,by go_grown⟩
theorem Hg (k n m:Int) (s:ByteArray) (w:w_):
  k_ J3 150 #[a_ #[i_ j_ k,i_ j_ n,i_ j_ m,t_ s]] w fun e w'=>e=r_ (a_ #[i_ j_ k,i_ j_ n,i_ j_ m,t_ s])∧B_ w.heap.size w w':=by
 go_enter func150,ntmps150
 go_wp2;exact KT (v:=a_ #[i_ j_ k,i_ j_ n,i_ j_ m,t_ s]) (by simp [results,results150,go_sem]) rfl ⟨rfl,by go_grown⟩
theorem EN (k n m:Int) (s:ByteArray) (w:w_):
  k_ J3 151 #[a_ #[i_ j_ k,i_ j_ n,i_ j_ m,t_ s],a_ #[i_ j_ k,i_ j_ n,i_ j_ m,t_ s]] w fun e w'=>e=r_ (b_ true)∧B_ w.heap.size w w':=by
 go_enter func151,ntmps151
 exact Zbk
end
section
open Go
section
variable {P:Program} {ops:Array Oper} {Q:Exit→Act→w_→Prop} {md:Region.Mode} {S:w_→Prop}
def zK (l:Array Bool):Nat:=l.toList.count false
theorem cX {l:Array Bool} {i:Nat} (h:i∈Region.ready md ops l):l[i]? =o_ false:=by
 simp only [Region.ready,L2,J7,PR] at h;have h1:=h.2.1;rw [adY] at h1;cases h2:l[i]? with
 | none=>rw [h2] at h1; simp at h1
 | some b=>rw [h2] at h1; simp at h1; rw [h1]
def D8 (md:Region.Mode) (ops:Array Oper) (i:Nat):List Nat:=((ops[i]?).map fun o=>(o.after.toList.filter fun e=>Region.binds md e).map fun e=>e.on).getD []
theorem hF {l:Array Bool} {i:Nat} (ns:List Nat) (h:i∈Region.ready md ops l) (hn:D8 md ops i=ns): ∀ j∈ns,l[j]? =o_ true:=fun j hj=>by
 simp only [Region.ready,L2,J7] at h;have h1:=h.2.2;subst hn;unfold D8 at hj;cases ho:ops[i]? with
 | none=>rw [ho] at hj; simp at hj
 | some o=>
  rw [ho] at hj h1;simp only [J9,Ka,Lr,L2] at hj h1;obtain ⟨e,⟨he,hb⟩,rfl⟩:=hj;rw [aeb] at h1;have h2:=h1 e (by simpa using he);simp only [hb,Bool.not_true,Qg,adY] at h2;cases h3:l[e.on]? with
  | none=>rw [h3] at h2; simp at h2
  | some b=>rw [h3] at h2; simp at h2; rw [h2]
theorem jW {l:Array Bool} {i:Nat} (ns:List Nat) (hi:decide (i < ops.size)=true) (hn:D8 md ops i=ns) (hf:l[i]? =o_ false) (hd: ∀ j∈ns,l[j]? =o_ true):i∈Region.ready md ops l:=by
 have hi':=of_decide_eq_true hi;simp only [Region.ready,L2,List.mem_range,J7,PR,adY,hf,Ka,true_and];refine ⟨hi',?_⟩;subst hn;rw [Qb hi'] at *;simp only [D8,Qb hi',J9,Ka] at hd ⊢;rw [aeb];intro e he;cases hb:Region.binds md e with
 | false=>simp
 | true=>
  have:=hd e.on (Lr.2 ⟨e,L2.2 ⟨by simpa using he,hb⟩,rfl⟩)
  simp [this]
theorem count_set: ∀ {q:List Bool} {i:Nat},q[i]? =o_ false→(q.set i true).count false+1=q.count false
 | [],_,h=>by simp at h
 | b :: r,0,h=>by
  simp only [List.getElem?_cons_zero,LF] at h;subst h;simp
 | b :: r,i+1,h=>by
  simp only [List.getElem?_cons_succ] at h
  have:=count_set h
  simp only [List.set_cons_succ,List.count_cons];omega
theorem vr {l:Array Bool} {i:Nat} (h:l[i]? =o_ false):zK (l.setIfInBounds i true)+1=zK l:=by
 unfold zK;rw [Array.toList_setIfInBounds];exact count_set (by rw [Array.getElem?_toList]; exact h)
theorem tk (i:Nat) {oi:Oper} {v:v_} {fuel:Nat} {RV:Array Bool} {a:Act} {w:w_} {d:Tmp} (hy: ∀ w,S w→(execOp a.eval oi).run P w= .ok (.value v) w) (hS:S w)
  (h:wpAnyH P md ops Q S fuel (RV.setIfInBounds i true) (a.put (o_ d) v) w) (hi:ops[i]? =o_ oi:=by rfl) (hd:oi.dst=o_ d:=by rfl) (h1:Region.noSelect ops=true:=by kernel_rfl) (h2:Region.free md ops RV i=true:=by kernel_rfl) (h3:(Region.ready md ops RV).contains i=true:=by kernel_rfl)
  (hQ: ∀ c a w,Q (.panic c) (a.put (o_ d) v) w→Q (.panic c) a w:=by exact fun _ _ _ h=>h) (hw:Region.wanted oi (yielded ops a.tmps)=true:=by kernel_rfl):wpAnyH P md ops Q S (fuel+1) RV a w:=by
 rw [← hd] at h hQ;exact wpAnyH_take (i:=i) hi h1 h2 h3 hQ (.inl ⟨hw,hy⟩) hS h
theorem tt (i:Nat) {oi:Oper} {v:v_} {fuel:Nat} {RV:Array Bool} {a a':Act} {w:w_} {d:Tmp} (hS:S w) (h:wpAnyH P md ops Q S fuel (RV.setIfInBounds i true) a' w) (hi:ops[i]? =o_ oi:=by rfl) (hd:oi.dst=o_ d:=by rfl)
  (hy: ∀ w,S w→(execOp a.eval oi).run P w= .ok (.value v) w:=by intro w0 hS0; go_simp; try with_reducible rfl) (h1:Region.noSelect ops=true:=by kernel_rfl) (h2:Region.free md ops RV i=true:=by kernel_rfl) (h3:(Region.ready md ops RV).contains i=true:=by kernel_rfl)
  (hQ: ∀ c a w,Q (.panic c) (a.put (o_ d) v) w→Q (.panic c) a w:=by exact fun _ _ _ h=>h) (hw:Region.wanted oi (yielded ops a.tmps)=true:=by kernel_rfl) (ha:a.put (o_ d) v=a':=by simp only [pt,sb,s0,s1]; rfl):wpAnyH P md ops Q S (fuel+1) RV a w:=
 tk i hy hS ZdD hi hd h1 h2 h3 hQ hw
theorem afJ (i:Nat) {oi:Oper} {v:v_} {fuel:Nat} {RV:Array Bool} {a a':Act} {w:w_} {d:Tmp} (hS:S w) (h:wpAnyH P md ops Q S fuel (RV.setIfInBounds i true) a' w) (hi:ops[i]? =o_ oi:=by rfl) (hd:oi.dst=o_ d:=by rfl)
  (hy: ∀ w,S w→(execOp a.eval oi).run P w= .ok (.value v) w:=by intro w0 hS0; (try have x1:=agb hS0); (try have x1:=agb hS0.1); (try have x2:=ia hS0.2); (try have x2:=gE hS0.2); (try have x2:=bo hS0); (try have x2:=bo hS0.1); go_simp; try with_reducible rfl) (h1:Region.noSelect ops=true:=by kernel_rfl) (h2:Region.free md ops RV i=true:=by kernel_rfl) (h3:(Region.ready md ops RV).contains i=true:=by kernel_rfl)
  (hQ: ∀ c a w,Q (.panic c) (a.put (o_ d) v) w→Q (.panic c) a w:=by exact fun _ _ _ h=>h) (hw:Region.wanted oi (yielded ops a.tmps)=true:=by kernel_rfl) (ha:a.put (o_ d) v=a':=by simp only [pt,sb,s0,s1]; rfl):wpAnyH P md ops Q S (fuel+1) RV a w:=
 tk i hy hS ZdD hi hd h1 h2 h3 hQ hw
theorem agi (i:Nat) {oi:Oper} {v:v_} {fuel:Nat} {RV:Array Bool} {a a':Act} {w:w_} {d:Tmp} (hS:S w) (h:wpAnyH P md ops Q S fuel (RV.setIfInBounds i true) a' w) (hi:ops[i]? =o_ oi:=by rfl) (hd:oi.dst=o_ d:=by rfl)
  (hy: ∀ w,S w→(execOp a.eval oi).run P w= .ok (.value v) w:=by intro w0 hS0; (first | (have q0:=hS0.1.cells.2.2.2.2.2.2.2; rw [HG.I] at q0) | (have q0:=hS0.1.cells.2.2.2.2.2.2.1; rw [HG.I] at q0)); (try (have q5:=hS0.1.cells.2.2.1; rw [ud.I] at q5; have q7:=hS0.2)); (try have q3:=hS0.2.1.cells.2.2.2); (try have q4:w0.cell? ⟨X,4,n_⟩=o_ (s_ y.ak y.Ma.length y.aq):=(by simp [World.cell?,hS0.2.2])); (try have q4:w0.cell? ⟨X,2,n_⟩=o_ (s_ y.ak y.Ma.length y.aq):=(by simp [World.cell?,hS0.2.2])); (try have q4:w0.cell? ⟨X,4,n_⟩=o_ (s_ y.ak y.Ma.length y.aq):=(by simp [World.cell?,hS0.2])); (try have q4:w0.cell? ⟨X,2,n_⟩=o_ (s_ y.ak y.Ma.length y.aq):=(by simp [World.cell?,hS0.2])); (try simp only at q3); go_simp; try with_reducible rfl) (h1:Region.noSelect ops=true:=by kernel_rfl) (h2:Region.free md ops RV i=true:=by kernel_rfl) (h3:(Region.ready md ops RV).contains i=true:=by kernel_rfl)
  (hQ: ∀ c a w,Q (.panic c) (a.put (o_ d) v) w→Q (.panic c) a w:=by exact fun _ _ _ h=>h) (hw:Region.wanted oi (yielded ops a.tmps)=true:=by kernel_rfl) (ha:a.put (o_ d) v=a':=by simp only [pt,sb,s0,s1]; rfl):wpAnyH P md ops Q S (fuel+1) RV a w:=
 tk i hy hS ZdD hi hd h1 h2 h3 hQ hw
theorem L7 (i:Nat) {o:Oper} {fuel:Nat} {RV:Array Bool} {a:Act} {w:w_} (h: ∀ K':Act→w_→Prop,Shut (∀ a w,S w→(S w→wpAnyH P md ops Q S fuel (RV.setIfInBounds i true) a w)→K' a w)→Oper.wp P o a w K' Q)
  (hr:Region.ready md ops RV= [i] :=by kernel_rfl) (ho:ops.toList[i]? =o_ o:=by rfl) (hw:Region.wanted o (yielded ops a.tmps)=true:=by kernel_rfl):wpAnyH P md ops Q S (fuel+1) RV a w:=
 wpAnyH_ready hr (by simp) (KX (by rw [← ho]; simp) (fun K' hK=>by rw [if_pos hw]; exact h K' hK) KY)
theorem ln {i:Nat} {o:Oper} {K:Act→w_→Prop} {a:Act} {w:w_} (ho:ops[i]? =o_ o) (hw:Region.wanted o (yielded ops a.tmps)=true)
  (h: ∀ K':Act→w_→Prop,Shut (∀ a w,K a w→K' a w)→Oper.wp P o a w K' Q):wpOp P ops Q i K a w:=
 wpOp_step ho fun K' hK=>by
  rw [if_pos hw];exact h K' hK
theorem wild (Inv:Array Bool→Act→w_→Prop) (hS: ∀ l a w,Inv l a w→S w) (hstep: ∀ l a w,Inv l a w→ ∀ i∈Region.ready md ops l,wpOp P ops Q i (Inv (l.setIfInBounds i true)) a w)
  (hend: ∀ l a w,Inv l a w→Region.ready md ops l= [] →Q .normal a w): ∀ (fuel:Nat) (l:Array Bool) (a:Act) (w:w_),Inv l a w→zK l≤fuel→wpAnyH P md ops Q S fuel l a w
 | 0,l,a,w,h,hu=>by
  have h0:Region.ready md ops l= [] :=List.eq_nil_iff_forall_not_mem.2 fun i hi=>by
   have:=vr (cX hi)
   omega
  exact ⟨h0,hend _ _ _ h h0⟩
 | fuel+1,l,a,w,h,hu=>⟨fun h0=>hend _ _ _ h h0,fun i hi=>Qd (fun a' w' h'=>⟨hS _ _ _ h',wild Inv hS hstep hend fuel _ a' w' h' (by have:=vr (cX hi); omega)⟩) (hstep _ _ _ h i hi)⟩
end
theorem bL {P:Program} {fn:Func} {p u:Tmp} {ty:TypeId} (h:fn.results= #[.cell p ty,.tmp u]) (tmps:Array Value) (w:World) (g:Nat) (t:TypeId) (cs:Array Value) (fr:Nat × Nat) (d:TypeDesc)
  (hp:tmps.getD p undef= .pointer (some ⟨g,0,none⟩)) (hg:w.heap[g]? =some (.cells cs t fr))
  (hu:P.underlying ty=some d) (hd:(match d with | .struct _ | .array _ _=>true | _=>false)=true) (hi:(P.info? ty).map (·.size)=some cs.size):
  (results fn tmps).run P w= .ok (.tuple #[.agg cs,tmps.getD u undef]) w:=by
 rw [results_cell_tmp h,hp];simp [asAddr,run_loadVar_row w g t ty cs fr d hg hu hd hi]
end
section
open Go.RowKit
def pJ (k:Int):Prop:=k=1∨k=2∨k=4∨k=5∨k=6∨k=11∨k=14∨k=15∨k=16
def mF (k:Int):Prop:=k=3∨k=7∨k=9∨k=12
def isText (k:Int):Prop:=k=10∨k=13
def bI (s:ByteArray):Bool:=s.toList.isEmpty
def mQ (k n m:Int) (s:ByteArray):Bool:=
 if k=1∨k=2∨k=4∨k=5∨k=6∨k=11∨k=14∨k=15∨k=16 then cv n 1 1000 && decide (m=0) && bI s
 else if k=3∨k=7∨k=9∨k=12 then cv n 1 1000 && cv m (-1) 1000 && bI s
 else if k=8 then cv n 1 1000 && cv m (-1) 1000 && bw s
 else if k=10∨k=13 then cv n 1 1000 && decide (m=0) && bw s
 else if k=17 then decide (n=0) && decide (m=0) && bI s
 else false
theorem Cr (k n m:Int) (s:ByteArray) (w:w_) (hk:pJ k):
  k_ J3 140 #[a_ #[i_ j_ k,i_ j_ n,i_ j_ m,t_ s]] w fun e w'=>e=r_ (b_ (mQ k n m s))∧B_ w.heap.size w w':=by
 rcases hk with rfl | rfl | rfl | rfl | rfl | rfl | rfl | rfl | rfl
 all_goals
  exact Zaq
theorem BH (k n m:Int) (s:ByteArray) (w:w_) (hk:mF k):
  k_ J3 140 #[a_ #[i_ j_ k,i_ j_ n,i_ j_ m,t_ s]] w fun e w'=>e=r_ (b_ (mQ k n m s))∧B_ w.heap.size w w':=by
 rcases hk with rfl | rfl | rfl | rfl
 all_goals
  exact Zaq
theorem Bu (k n m:Int) (s:ByteArray) (w:w_) (hs:s.size≤1048576) (hk:isText k):
  k_ J3 140 #[a_ #[i_ j_ k,i_ j_ n,i_ j_ m,t_ s]] w fun e w'=>e=r_ (b_ (mQ k n m s))∧B_ w.heap.size w w':=by
 rcases hk with rfl | rfl
 all_goals
  simp only [mQ,Int.reduceEq,or_true,or_false,or_self,if_true,if_false]
  go_enter func140,ntmps140
  go_wp2_with (first | (go_at_call 21; refine (dx _ _ _ _).mono ?_; rintro e w' ⟨rfl,rfl⟩) | (go_at_call 98; refine (jC _ _ hs).mono ?_; rintro e w' ⟨rfl,rfl⟩))
  all_goals go_ret
  all_goals exact ⟨al (by simp_all),by go_grown⟩
theorem BZ (k n m:Int) (s:ByteArray) (w:w_) (hs:s.size≤1048576) (hk:k=8∨k=17):
  k_ J3 140 #[a_ #[i_ j_ k,i_ j_ n,i_ j_ m,t_ s]] w fun e w'=>e=r_ (b_ (mQ k n m s))∧B_ w.heap.size w w':=by
 rcases hk with rfl | rfl
 all_goals
  simp only [mQ,Int.reduceEq,or_self,if_true,if_false]
  go_enter func140,ntmps140
  go_wp2_with (first | (go_at_call 21; refine (dx _ _ _ _).mono ?_; rintro e w' ⟨rfl,rfl⟩) | (go_at_call 98; refine (jC _ _ hs).mono ?_; rintro e w' ⟨rfl,rfl⟩))
  all_goals go_ret
  all_goals exact ⟨al (by simp_all [bI]),by go_grown⟩
theorem Bd {k n m:Int} {s:ByteArray} (h: ¬ (1≤k∧k≤17)):mQ k n m s=false:=by
 unfold mQ;exact ZbJ
theorem B9 (k n m:Int) (s:ByteArray) (w:w_) (hk: ¬ (1≤k∧k≤17)):
  k_ J3 140 #[a_ #[i_ j_ k,i_ j_ n,i_ j_ m,t_ s]] w fun e w'=>e=r_ (b_ (mQ k n m s))∧B_ w.heap.size w w':=by
 rw [Bd hk];have e1:(k == 1)=false:=by simp; omega
 have e2:(k == 2)=false:=by simp; omega
 have e3:(k == 3)=false:=by simp; omega
 have e4:(k == 4)=false:=by simp; omega
 have e5:(k == 5)=false:=by simp; omega
 have e6:(k == 6)=false:=by simp; omega
 have e7:(k == 7)=false:=by simp; omega
 have e8:(k == 8)=false:=by simp; omega
 have e9:(k == 9)=false:=by simp; omega
 have Pn:(k == 10)=false:=by simp; omega
 have e11:(k == 11)=false:=by simp; omega
 have PF:(k == 12)=false:=by simp; omega
 have PG:(k == 13)=false:=by simp; omega
 have e14:(k == 14)=false:=by simp; omega
 have e15:(k == 15)=false:=by simp; omega
 have e16:(k == 16)=false:=by simp; omega
 have PH:(k == 17)=false:=by simp; omega
 go_enter func140,ntmps140
 go_wp2_with (go_at_call 21; refine (dx _ _ _ _).mono ?_; rintro e w' ⟨rfl,rfl⟩);go_ret;exact ⟨rfl,by go_grown⟩
theorem xZ (k n m:Int) (s:ByteArray) (w:w_) (hs:s.size≤1048576):
  k_ J3 140 #[a_ #[i_ j_ k,i_ j_ n,i_ j_ m,t_ s]] w fun e w'=>e=r_ (b_ (mQ k n m s))∧B_ w.heap.size w w':=by
 by_cases h0:1≤k∧k≤17
 ·by_cases h1:pJ k
  ·exact Cr k n m s w h1
  by_cases h2:mF k
  ·exact BH k n m s w h2
  by_cases h3:isText k
  ·exact Bu k n m s w hs h3
  exact BZ k n m s w hs ZdJ
 ·exact B9 k n m s w h0
abbrev dN:=Int × Int × Int × ByteArray
def kc (o:dN):Bool:=mQ o.1 o.2.1 o.2.2.1 o.2.2.2
theorem eW (n:Int) (w:w_):k_ J3 153 #[i_ j_ n] w fun e w'=>e=r_ (b_ (cv n 1 1000))∧w'=w:=by
 by_cases h1:1≤n
 ·by_cases h2:n≤1000
  ·go_enter func153,ntmps153
   exact Zbq
  ·go_enter func153,ntmps153
   exact Zbc
 ·go_enter func153,ntmps153
  exact Zbd
theorem iX (n:Int) (w:w_):k_ J3 269 #[i_ j_ n] w fun e w'=>e=r_ (b_ (cv n (-1) 1000))∧w'=w:=by
 by_cases h1: -1≤n
 ·by_cases h2:n≤1000
  ·go_enter func269,ntmps269
   exact Zbq
  ·go_enter func269,ntmps269
   exact Zbc
 ·go_enter func269,ntmps269
  exact Zbd
/-! ### Which form an interface value bears. -/
theorem ze (v:v_) (w:w_):(Instr.typeAssert (.iface 356 v) 342 356 true).run J3 w= .ok (u_ #[v,b_ true]) w:=by kernel_rfl
theorem uC (v:v_) (w:w_):(Instr.typeAssert (.iface 348 v) 342 356 true).run J3 w= .ok (u_ #[a_ #[i_ j_ 0],b_ false]) w:=by kernel_rfl
theorem sG (v:v_) (w:w_):(Instr.typeAssert (.iface 348 v) 342 348 true).run J3 w= .ok (u_ #[v,b_ true]) w:=by kernel_rfl
theorem zv (v:v_) (w:w_):(Instr.typeAssert (.iface 350 v) 342 356 true).run J3 w= .ok (u_ #[a_ #[i_ j_ 0],b_ false]) w:=by kernel_rfl
theorem uY (v:v_) (w:w_):(Instr.typeAssert (.iface 350 v) 342 348 true).run J3 w= .ok (u_ #[a_ #[i_ j_ 0,i_ j_ 0],b_ false]) w:=by kernel_rfl
theorem y8 (v:v_) (w:w_):(Instr.typeAssert (.iface 350 v) 342 350 true).run J3 w= .ok (u_ #[v,b_ true]) w:=by kernel_rfl
theorem zt (v:v_) (w:w_):(Instr.typeAssert (.iface 352 v) 342 356 true).run J3 w= .ok (u_ #[a_ #[i_ j_ 0],b_ false]) w:=by kernel_rfl
theorem vh (v:v_) (w:w_):(Instr.typeAssert (.iface 352 v) 342 348 true).run J3 w= .ok (u_ #[a_ #[i_ j_ 0,i_ j_ 0],b_ false]) w:=by kernel_rfl
theorem yQ (v:v_) (w:w_):(Instr.typeAssert (.iface 352 v) 342 350 true).run J3 w= .ok (u_ #[a_ #[i_ j_ 0,i_ j_ 0,i_ j_ 0],b_ false]) w:=by kernel_rfl
theorem yj (v:v_) (w:w_):(Instr.typeAssert (.iface 352 v) 342 352 true).run J3 w= .ok (u_ #[v,b_ true]) w:=by kernel_rfl
theorem zq (v:v_) (w:w_):(Instr.typeAssert (.iface 354 v) 342 356 true).run J3 w= .ok (u_ #[a_ #[i_ j_ 0],b_ false]) w:=by kernel_rfl
theorem vy (v:v_) (w:w_):(Instr.typeAssert (.iface 354 v) 342 348 true).run J3 w= .ok (u_ #[a_ #[i_ j_ 0,i_ j_ 0],b_ false]) w:=by kernel_rfl
theorem yt (v:v_) (w:w_):(Instr.typeAssert (.iface 354 v) 342 350 true).run J3 w= .ok (u_ #[a_ #[i_ j_ 0,i_ j_ 0,i_ j_ 0],b_ false]) w:=by kernel_rfl
theorem yM (v:v_) (w:w_):(Instr.typeAssert (.iface 354 v) 342 352 true).run J3 w= .ok (u_ #[a_ #[i_ j_ 0,i_ j_ 0,i_ j_ 0,t_ ByteArray.empty],b_ false]) w:=by kernel_rfl
theorem yU (v:v_) (w:w_):(Instr.typeAssert (.iface 354 v) 342 354 true).run J3 w= .ok (u_ #[v,b_ true]) w:=by kernel_rfl
theorem my (k:Int) (w:w_):
  k_ J3 268 #[.iface 356 (a_ #[i_ j_ k])] w fun e w'=>e=r_ (b_ (true))∧B_ w.heap.size w w':=by
 have yW:=ze (a_ #[i_ j_ k])
 exact D_
theorem mC (k n:Int) (w:w_):
  k_ J3 268 #[.iface 348 (a_ #[i_ j_ k,i_ j_ n])] w fun e w'=>e=r_ (b_ (cv n 1 1000))∧B_ w.heap.size w w':=by
 have yW:=uC (a_ #[i_ j_ k,i_ j_ n]);have ur:=sG (a_ #[i_ j_ k,i_ j_ n])
 exact D_
theorem sH (k n m:Int) (w:w_):
  k_ J3 268 #[.iface 350 (a_ #[i_ j_ k,i_ j_ n,i_ j_ m])] w fun e w'=>e=r_ (b_ (cv n 1 1000 && cv m (-1) 1000))∧B_ w.heap.size w w':=by
 have yW:=zv (a_ #[i_ j_ k,i_ j_ n,i_ j_ m]);have ur:=uY (a_ #[i_ j_ k,i_ j_ n,i_ j_ m]);have GI:=y8 (a_ #[i_ j_ k,i_ j_ n,i_ j_ m])
 exact D_
theorem Bc (k n m:Int) (s:ByteArray) (w:w_) (hs:s.size≤1048576):
  k_ J3 268 #[.iface 352 (a_ #[i_ j_ k,i_ j_ n,i_ j_ m,t_ s])] w fun e w'=>e=r_ (b_ (cv n 1 1000 && cv m (-1) 1000 && bw s))∧B_ w.heap.size w w':=by
 have yW:=zt (a_ #[i_ j_ k,i_ j_ n,i_ j_ m,t_ s]);have ur:=vh (a_ #[i_ j_ k,i_ j_ n,i_ j_ m,t_ s]);have GI:=yQ (a_ #[i_ j_ k,i_ j_ n,i_ j_ m,t_ s]);have h_send:=yj (a_ #[i_ j_ k,i_ j_ n,i_ j_ m,t_ s])
 exact R_
theorem sL (k n:Int) (s:ByteArray) (w:w_) (hs:s.size≤1048576):
  k_ J3 268 #[.iface 354 (a_ #[i_ j_ k,i_ j_ n,t_ s])] w fun e w'=>e=r_ (b_ (cv n 1 1000 && bw s))∧B_ w.heap.size w w':=by
 have yW:=zq (a_ #[i_ j_ k,i_ j_ n,t_ s]);have ur:=vy (a_ #[i_ j_ k,i_ j_ n,t_ s]);have GI:=yt (a_ #[i_ j_ k,i_ j_ n,t_ s]);have h_send:=yM (a_ #[i_ j_ k,i_ j_ n,t_ s]);have h_text:=yU (a_ #[i_ j_ k,i_ j_ n,t_ s])
 exact R_
def Row (w:w_) (a:Option d_) (xs:List v_):Prop:= ∀ (j:Nat) (u:v_),xs[j]? =o_ u→ ∃ g,a=o_ ⟨g,0,n_⟩∧w.cell? ⟨g,j,n_⟩=o_ u
section
variable {w w':w_} {a:Option d_} {xs:List v_}
theorem Row.nothing (w:w_) (a:Option d_):Row w a [] :=fun j u h=>by simp at h
theorem Row.same (h:Row w a xs) (hs: ∀ g,a=o_ ⟨g,0,n_⟩→w'.heap[g]? =w.heap[g]?):Row w' a xs:=fun j u hu=>by
 obtain ⟨g,e,hc⟩:=h j u hu;exact ⟨g,e,(J1 (w:=w) (a:=⟨g,j,n_⟩) (hs g e)).trans hc⟩
theorem Row.below (h:Row w a xs) (hb:B_ w.heap.size w w'):Row w' a xs:=fun j u hu=>by
 obtain ⟨g,e,hc⟩:=h j u hu;exact ⟨g,e,(hb.cell (p:=⟨g,j,n_⟩) (Le hc)).trans hc⟩
theorem Row.low {base:Nat} (h:Row w a xs) (ha: ∀ q,a=o_ q→q.block < base) (hb:B_ base w w'):Row w' a xs:=h.same fun g e=>hb.block g (ha _ e)
theorem Row.drew (h:Row w a xs):Row w.drew a xs:=h
end
def Src (w:w_) (a:Option d_) (xs:List v_):Prop:= ∀ (j:Nat) (u:v_),xs[j]? =o_ u→ ∃ b off,a=o_ ⟨b,off,n_⟩∧w.cell? ⟨b,off+j,n_⟩=o_ u
theorem Src.below {w w':w_} {a:Option d_} {xs:List v_} (h:Src w a xs) (hb:B_ w.heap.size w w'):Src w' a xs:=fun j u hu=>by
 obtain ⟨b,off,e,hc⟩:=h j u hu;exact ⟨b,off,e,(hb.cell (p:=⟨b,off+j,n_⟩) (Le hc)).trans hc⟩
structure Kind (α:Type) where
 n:Nat
 vals:α→List v_
 kids:α→List (Option d_ × List v_)
 pos:0 < n
 len: ∀ x,(vals x).length=n
section
variable {α:Type} (K:Kind α)
def Kind.flat (l:List α):List v_:=l.flatMap K.vals
theorem Kind.dM (l:List α):(K.flat l).length=l.length * K.n:=by
 induction l with
 | nil=>simp [Kind.flat]
 | cons x r ih=>
  show (K.vals x ++ K.flat r).length=_
  rw [Lf,ih,K.len,Lg,Lh];omega
theorem Kind.jw {l:List α} {i:Nat} {x:α} (hx:l[i]? =o_ x) {j:Nat} (hj:j < K.n):(K.flat l)[i * K.n+j]? =(K.vals x)[j]? :=by
 induction l generalizing i with
 | nil=>simp at hx
 | cons y r ih=>
  show (K.vals y ++ K.flat r)[_]? =_
  cases i with
  | zero=>
   simp at hx;subst hx;rw [Nat.zero_mul,Nat.zero_add,List.getElem?_append_left (by rw [K.len]; exact hj)]
  | succ i=>
   have hx':r[i]? =o_ x:=by simpa using hx
   rw [List.getElem?_append_right (by rw [K.len,Lh]; omega),K.len,show (i+1) * K.n+j - K.n=i * K.n+j by rw [Lh]; omega];exact ih hx'
theorem Kind.dc (l r:List α):K.flat (l ++ r)=K.flat l ++ K.flat r:=List.flatMap_append
theorem Kind.GJ (x:α):K.flat [x] =K.vals x:=by simp [Kind.flat]
def Kind.bU (w:w_) (a:Option d_) (l:List α):Prop:=Row w a (K.flat l)∧ ∀ x∈l,∀ r∈K.kids x,Row w r.1 r.2
variable {K}
theorem Kind.bU.at {w:w_} {a:Option d_} {l:List α} (h:K.bU w a l) {i:Nat} {x:α} (hx:l[i]? =o_ x):
  ∃ g,a=o_ ⟨g,0,n_⟩∧ ∀ (j:Nat) (u:v_),(K.vals x)[j]? =o_ u→w.cell? ⟨g,i * K.n+j,n_⟩=o_ u:=by
 have h0: ∃ u,(K.vals x)[0]? =o_ u:=⟨_,Kz ZdZ⟩
 obtain ⟨u0,hu0⟩:=h0;obtain ⟨g,e,_⟩:=h.1 (i * K.n+0) u0 ((K.jw hx K.pos).trans hu0);refine ⟨g,e,fun j u hu=> ?_⟩;have hj:j < K.n:=by
  rw [← K.len x];exact (Lj.1 hu).1
 obtain ⟨g',e',hc⟩:=h.1 (i * K.n+j) u ((K.jw hx hj).trans hu);rw [e] at e';cases e';exact hc
theorem Kind.bU.bt {w:w_} {a:Option d_} {l:List α} (h:K.bU w a l) {i:Nat} {x:α} (hx:l[i]? =o_ x) {r:Option d_ × List v_} (hr:r∈K.kids x):Row w r.1 r.2:=h.2 x (KA hx) r hr
variable (K) in
def Kind.ep (w:w_) (a:Option d_) (l:List α):Prop:=Src w a (K.flat l)∧ ∀ x∈l,∀ r∈K.kids x,Src w r.1 r.2
theorem Kind.ep.at {w:w_} {a:Option d_} {l:List α} (h:K.ep w a l) {i:Nat} {x:α} (hx:l[i]? =o_ x):
  ∃ b off,a=o_ ⟨b,off,n_⟩∧ ∀ (j:Nat) (u:v_),(K.vals x)[j]? =o_ u→w.cell? ⟨b,off+i * K.n+j,n_⟩=o_ u:=by
 have h0: ∃ u,(K.vals x)[0]? =o_ u:=⟨_,Kz ZdZ⟩
 obtain ⟨u0,hu0⟩:=h0;obtain ⟨b,off,e,_⟩:=h.1 (i * K.n+0) u0 ((K.jw hx K.pos).trans hu0);refine ⟨b,off,e,fun j u hu=> ?_⟩;have hj:j < K.n:=by
  rw [← K.len x];exact (Lj.1 hu).1
 obtain ⟨b',off',e',hc⟩:=h.1 (i * K.n+j) u ((K.jw hx hj).trans hu);rw [e] at e';cases e';rw [Nat.add_assoc];exact hc
theorem Kind.ep.bt {w:w_} {a:Option d_} {l:List α} (h:K.ep w a l) {i:Nat} {x:α} (hx:l[i]? =o_ x) {r:Option d_ × List v_} (hr:r∈K.kids x):Src w r.1 r.2:=h.2 x (KA hx) r hr
theorem Kind.ep.below {w w':w_} {a:Option d_} {l:List α} (h:K.ep w a l) (hb:B_ w.heap.size w w'):K.ep w' a l:=⟨h.1.below hb,fun x hx r hr=>(h.2 x hx r hr).below hb⟩
theorem Kind.bU.below {w w':w_} {a:Option d_} {l:List α} (h:K.bU w a l) (hb:B_ w.heap.size w w'):K.bU w' a l:=⟨h.1.below hb,fun x hx r hr=>(h.2 x hx r hr).below hb⟩
end
def CC (o:dN):List v_:= [i_ j_ o.1,i_ j_ o.2.1,i_ j_ o.2.2.1,t_ o.2.2.2]
def fk:Kind dN:=⟨4,CC,fun _=> [],by decide,fun _=>rfl⟩
def bT:Kind ByteArray:=⟨1,fun s=> [t_ s],fun _=> [],by decide,fun _=>rfl⟩
def iG (w:w_) (g len:Nat) (K N M:Nat→Int) (S:Nat→ByteArray):Prop:=g < w.heap.size∧ ∀ j,j < len * 4→w.cell? ⟨g,j,n_⟩=o_ (xe K N M S j)
theorem iG.of_block {w w':w_} {g len:Nat} {K N M:Nat→Int} {S:Nat→ByteArray} (h:iG w g len K N M S) (e:w'.heap[g]? =w.heap[g]?):iG w' g len K N M S:=by
 exact ZbF
theorem iG.below {w w':w_} {g len:Nat} {K N M:Nat→Int} {S:Nat→ByteArray} (h:iG w g len K N M S) (hb:B_ w.heap.size w w'):iG w' g len K N M S:=h.of_block (hb.block g h.1)
theorem iG.c0 {w:w_} {g len:Nat} {K N M:Nat→Int} {S:Nat→ByteArray} (h:iG w g len K N M S) {i:Nat} (hi:i < len):w.cell? ⟨g,i * 4,n_⟩=o_ (i_ j_ (K i)):=by rw [← opV_0 K N M S]; exact h.2 _ (by omega)
theorem iG.c1 {w:w_} {g len:Nat} {K N M:Nat→Int} {S:Nat→ByteArray} (h:iG w g len K N M S) {i:Nat} (hi:i < len):w.cell? ⟨g,i * 4+1,n_⟩=o_ (i_ j_ (N i)):=by rw [← opV_1 K N M S]; exact h.2 _ (by omega)
theorem iG.c2 {w:w_} {g len:Nat} {K N M:Nat→Int} {S:Nat→ByteArray} (h:iG w g len K N M S) {i:Nat} (hi:i < len):w.cell? ⟨g,i * 4+2,n_⟩=o_ (i_ j_ (M i)):=by rw [← opV_2 K N M S]; exact h.2 _ (by omega)
theorem iG.c3 {w:w_} {g len:Nat} {K N M:Nat→Int} {S:Nat→ByteArray} (h:iG w g len K N M S) {i:Nat} (hi:i < len):w.cell? ⟨g,i * 4+3,n_⟩=o_ (t_ (S i)):=by rw [← opV_3 K N M S]; exact h.2 _ (by omega)
def j8 (K N M:Nat→Int) (S:Nat→ByteArray) (i:Nat):Bool:=mQ (K i) (N i) (M i) (S i)
def nq (len:Nat) (K N M:Nat→Int) (S:Nat→ByteArray):Bool:=decide (1≤len∧len≤20∧ ∀ i,i < len→j8 K N M S i=true)
theorem vM {len:Nat} {K N M:Nat→Int} {S:Nat→ByteArray} (h:1≤len∧len≤20∧ ∀ i,i < len→j8 K N M S i=true):nq len K N M S=true:=by simp only [nq]; exact decide_eq_true h
theorem iS {len:Nat} {K N M:Nat→Int} {S:Nat→ByteArray} (h: ¬ (1≤len∧len≤20∧ ∀ i,i < len→j8 K N M S i=true)):nq len K N M S=false:=by simp only [nq]; exact decide_eq_false h
end
section
open Go.RowKit
attribute [local go_sem ↓] Kc Kd
theorem pu (k:Int) (w:w_):k_ J3 313 #[a_ #[i_ j_ k]] w fun e w'=>e=r_ (a_ #[i_ j_ k,i_ j_ 0,i_ j_ 0,t_ ByteArray.empty])∧B_ w.heap.size w w':=by
 go_enter func313,ntmps313
 go_wp2;exact KT (v:=a_ #[i_ j_ k,i_ j_ 0,i_ j_ 0,t_ ByteArray.empty]) (by simp [results,results313,go_sem]; try rfl) rfl ⟨rfl,by go_grown⟩
theorem oJ (k n:Int) (w:w_):k_ J3 309 #[a_ #[i_ j_ k,i_ j_ n]] w fun e w'=>e=r_ (a_ #[i_ j_ k,i_ j_ n,i_ j_ 0,t_ ByteArray.empty])∧B_ w.heap.size w w':=by
 go_enter func309,ntmps309
 go_wp2;exact KT (v:=a_ #[i_ j_ k,i_ j_ n,i_ j_ 0,t_ ByteArray.empty]) (by simp [results,results309,go_sem]; try rfl) rfl ⟨rfl,by go_grown⟩
theorem xk (k n m:Int) (w:w_):k_ J3 310 #[a_ #[i_ j_ k,i_ j_ n,i_ j_ m]] w fun e w'=>e=r_ (a_ #[i_ j_ k,i_ j_ n,i_ j_ m,t_ ByteArray.empty])∧B_ w.heap.size w w':=by
 go_enter func310,ntmps310
 go_wp2;exact KT (v:=a_ #[i_ j_ k,i_ j_ n,i_ j_ m,t_ ByteArray.empty]) (by simp [results,results310,go_sem]; try rfl) rfl ⟨rfl,by go_grown⟩
theorem Fc (k n m:Int) (s:ByteArray) (w:w_):k_ J3 311 #[a_ #[i_ j_ k,i_ j_ n,i_ j_ m,t_ s]] w fun e w'=>e=r_ (a_ #[i_ j_ k,i_ j_ n,i_ j_ m,t_ s])∧B_ w.heap.size w w':=by
 go_enter func311,ntmps311
 go_wp2;exact KT (v:=a_ #[i_ j_ k,i_ j_ n,i_ j_ m,t_ s]) (by simp [results,results311,go_sem]; try rfl) rfl ⟨rfl,by go_grown⟩
theorem xS (k n:Int) (s:ByteArray) (w:w_):k_ J3 312 #[a_ #[i_ j_ k,i_ j_ n,t_ s]] w fun e w'=>e=r_ (a_ #[i_ j_ k,i_ j_ n,i_ j_ 0,t_ s])∧B_ w.heap.size w w':=by
 go_enter func312,ntmps312
 go_wp2;exact KT (v:=a_ #[i_ j_ k,i_ j_ n,i_ j_ 0,t_ s]) (by simp [results,results312,go_sem]; try rfl) rfl ⟨rfl,by go_grown⟩
theorem DB (k n m:Int) (s:ByteArray) (w:w_) (hk:pJ k):
  k_ J3 267 #[a_ #[i_ j_ k,i_ j_ n,i_ j_ m,t_ s]] w fun e w'=>e=r_ (u_ #[.iface 348 (a_ #[i_ j_ k,i_ j_ n]),b_ true])∧B_ w.heap.size w w':=by
 rcases hk with rfl | rfl | rfl | rfl | rfl | rfl | rfl | rfl | rfl
 all_goals
  exact Y_
theorem AC (k n m:Int) (s:ByteArray) (w:w_) (hk:mF k):
  k_ J3 267 #[a_ #[i_ j_ k,i_ j_ n,i_ j_ m,t_ s]] w fun e w'=>e=r_ (u_ #[.iface 350 (a_ #[i_ j_ k,i_ j_ n,i_ j_ m]),b_ true])∧B_ w.heap.size w w':=by
 rcases hk with rfl | rfl | rfl | rfl
 all_goals
  exact Y_
theorem AE (k n m:Int) (s:ByteArray) (w:w_) (hk:k=8):
  k_ J3 267 #[a_ #[i_ j_ k,i_ j_ n,i_ j_ m,t_ s]] w fun e w'=>e=r_ (u_ #[.iface 352 (a_ #[i_ j_ k,i_ j_ n,i_ j_ m,t_ s]),b_ true])∧B_ w.heap.size w w':=by
 rcases hk with rfl
 all_goals
  exact Y_
theorem BJ (k n m:Int) (s:ByteArray) (w:w_) (hk:isText k):
  k_ J3 267 #[a_ #[i_ j_ k,i_ j_ n,i_ j_ m,t_ s]] w fun e w'=>e=r_ (u_ #[.iface 354 (a_ #[i_ j_ k,i_ j_ n,t_ s]),b_ true])∧B_ w.heap.size w w':=by
 rcases hk with rfl | rfl
 all_goals
  exact Y_
theorem Ag (k n m:Int) (s:ByteArray) (w:w_) (hk:k=17):
  k_ J3 267 #[a_ #[i_ j_ k,i_ j_ n,i_ j_ m,t_ s]] w fun e w'=>e=r_ (u_ #[.iface 356 (a_ #[i_ j_ k]),b_ true])∧B_ w.heap.size w w':=by
 rcases hk with rfl
 all_goals
  exact Y_
theorem BR (k n m:Int) (s:ByteArray) (w:w_) (hk: ¬ (1≤k∧k≤17)):
  k_ J3 267 #[a_ #[i_ j_ k,i_ j_ n,i_ j_ m,t_ s]] w fun e w'=>e=r_ (u_ #[.iface 356 (a_ #[i_ j_ 0]),b_ false])∧B_ w.heap.size w w':=by
 have e1:(k == 1)=false:=by simp; omega
 have e2:(k == 2)=false:=by simp; omega
 have e3:(k == 3)=false:=by simp; omega
 have e4:(k == 4)=false:=by simp; omega
 have e5:(k == 5)=false:=by simp; omega
 have e6:(k == 6)=false:=by simp; omega
 have e7:(k == 7)=false:=by simp; omega
 have e8:(k == 8)=false:=by simp; omega
 have e9:(k == 9)=false:=by simp; omega
 have Pn:(k == 10)=false:=by simp; omega
 have e11:(k == 11)=false:=by simp; omega
 have PF:(k == 12)=false:=by simp; omega
 have PG:(k == 13)=false:=by simp; omega
 have e14:(k == 14)=false:=by simp; omega
 have e15:(k == 15)=false:=by simp; omega
 have e16:(k == 16)=false:=by simp; omega
 have PH:(k == 17)=false:=by simp; omega
 exact Y_
end
section
open Go.RowKit Go.Maps
def od (v:Value):Option (DataW Unit × List MemPlace):=match v with
 | .pointer (some ⟨g,0,none⟩)=>some (.lit (.int .i64 g),[])
 | _=>none
def dt (g:Nat):Value:= .pointer (some ⟨g,0,none⟩)
def qz:Option Nat→Value
 | none=> .pointer none
 | some g=>dt g
theorem Ie (g:Nat):od (dt g)=some (.lit (.int .i64 g),[]):=rfl
theorem oI {v:Value} {z:DataW Unit × List MemPlace} (h:od v=some z): ∃ g:Nat,v=dt g∧z=(.lit (.int .i64 g),[]):=by
 unfold od at h
 split at h
 ·rename_i g
  cases h;exact ⟨g,rfl,rfl⟩
 ·cases h
abbrev df:=List (Int × Nat)
def nM (p:Int × Nat):Lit × DataW Unit:=(.int .i64 p.1,.lit (.int .i64 p.2))
def gA (m:df):DataW Unit:= .map (m.map nM)
def zP (m:df):Prop:=m.Pairwise (fun p q=>p.1 < q.1)
def cz (m:df) (k:Int):Option Nat:=(m.find? (fun p=>p.1 == k)).map (·.2)
def oK (p:Int × Nat):df→df
 | [] => [p]
 | y :: r=>if p.1 < y.1 then p :: y :: r else y :: oK p r
def cF (w:World) (b:Nat) (m:df):Prop:=w.ownsMap J3 2 od b m.length (gA m)∧zP m
theorem jb:Keyed J3 2:=int_keyed KN
theorem vX {k:Int} (hk:(Lit.int .i64 k).wf=true):keyOf J3 2 (.int .i64 k)=some (.int .i64 k):=keyOf_int_mk KN hk
theorem kH (a b:Int):(Lit.int .i64 a).sameKey (.int .i64 b)=(a == b):=by
 simp [Lit.sameKey];by_cases h:a=b <;> simp [h]
theorem GF (m:df) (k:Int):(m.map nM).find? (fun p=>p.1.sameKey (.int .i64 k))=(m.find? (fun p=>p.1 == k)).map nM:=by
 induction m with
 | nil=>rfl
 | cons p r ih=>
  simp only [Lt,LL];have e:(nM p).1.sameKey (.int .i64 k)=(p.1 == k):=kH _ _;rw [e];cases (p.1 == k)
  ·exact ih
  ·rfl
theorem pk (m:df) (k:Int) (z:DataW Unit):(gA m).atKey (.int .i64 k) z=match cz m k with | some g=> .lit (.int .i64 g) | none=>z:=by
 simp only [gA,DataW.atKey,GF];unfold cz;cases m.find? (fun p=>p.1 == k) <;> rfl
theorem size_map (m:df):Maps.size (gA m)=m.length:=by simp [Maps.size,gA]
section
variable {w w':World} {b:Nat} {m:df}
theorem cF.lt (h:cF w b m):b < w.heap.size:=h.1.lt
theorem cF.same (h:cF w b m) (hs:w'.heap[b]? =w.heap[b]?):cF w' b m:=by
 obtain ⟨⟨es,clock,hb,r⟩,h2⟩:=h;exact ⟨⟨es,clock,hs.trans hb,r⟩,h2⟩
theorem cF.below (h:cF w b m) (hb:Below w.heap.size w w'):cF w' b m:=h.same (hb.block b h.lt)
theorem cF.made (w:World):cF (w.alloc (.map #[] 0)) w.heap.size [] :=⟨World.ownsMap_made w J3 2 od,List.Pairwise.nil⟩
theorem cF.Hh (hb:w.heap[b]? =some (.map #[] 0)):cF w b [] :=⟨⟨#[],0,hb,⟨by simp,MapKept.stamped_empty 0,by simp⟩,by simp,rfl⟩,List.Pairwise.nil⟩
theorem cF.look (h:cF w b m) {t e:TypeId} (ht:Tryz.prog.underlying t=some (.map 2 e)) (hz:(zeroValue e).run J3 w= .ok (.pointer none) w) {k:Int} (hk:(Lit.int .i64 k).wf=true) (c:Bool):
  (Instr.lookup t (.map (some b)) (.int .i64 k) c).run J3 w= .ok (if c then .tuple #[qz (cz m k),.bool (cz m k).isSome] else qz (cz m k)) w:=by
 obtain ⟨⟨es,clock,hb,F,_,hD⟩,_⟩:=h;rcases Maps.fit_look c jb ht hz hb F (vX hk) with ⟨hrun,_,hat⟩ | ⟨e0,y,_,_,hrun,hRv,hat,_⟩
 ·have h1:=hat .nil
  rw [← hD,pk] at h1;have h2:=hat (.lit (.bool true));rw [← hD,pk] at h2;cases hl:cz m k with
  | none=>exact hrun
  | some g=>rw [hl] at h1; cases h1
 ·obtain ⟨g,hv,rfl⟩:=oI hRv
  have h1:=hat .nil;rw [← hD,pk] at h1;cases hl:cz m k with
  | none=>rw [hl] at h1; cases h1
  | some g'=>
   rw [hl] at h1;simp only [QZ,Lit.int.injEq,Int.natCast_inj,true_and] at h1;rw [hrun,hv,h1];cases c <;> rfl
theorem cF.len (h:cF w b m) {t e:TypeId} (ht:Tryz.prog.underlying t=some (.map 2 e)) (ty:TypeId):(Builtin.len_ #[t] ty #[.map (some b)]).run J3 w= .ok (.int .i64 (m.length:Int)) w:=by
 have:=h.1.len ht ty
 rwa [size_map] at this
theorem Bo (p:Int × Nat) (m:df):(oK p m).length=m.length+1:=by
 induction m with
 | nil=>rfl
 | cons y r ih=>
  unfold oK
  split
  ·rfl
  ·simp [ih]
theorem Gw {p q:Int × Nat} {m:df} :q∈oK p m↔q=p∨q∈m:=by
 induction m with
 | nil=>simp [oK]
 | cons y r ih=>
  unfold oK
  split
  ·simp
  ·simp only [Kt,ih]
   constructor
   ·exact Zb2
   ·exact Zb2
theorem DD {p:Int × Nat} {m:df} (h:zP m) (hn:cz m p.1=none):zP (oK p m):=by
 induction m with
 | nil=>exact List.pairwise_singleton _ _
 | cons y r ih=>
  obtain ⟨h1,h2⟩:=LM.1 h;have hy: ¬ y.1=p.1:=by
   intro e;simp [cz,e] at hn
  have hn':cz r p.1=none:=by
   unfold cz at hn ⊢;rw [LL] at hn
   have:(y.1 == p.1)=false:=by simp [hy]
   rw [this] at hn;exact hn
  unfold oK
  split
  ·rename_i hlt
   refine LM.2 ⟨fun q hq=> ?_,h⟩;rcases Kt.1 hq with rfl | hq
   ·exact hlt
   ·exact Int.lt_trans hlt (h1 q hq)
  ·rename_i hge
   refine LM.2 ⟨fun q hq=> ?_,ih h2 hn'⟩;rcases Gw.1 hq with rfl | hq
   ·omega
   ·exact h1 q hq
theorem It {m:df} {k:Int} {g:Nat} (hn:cz m k=none):(gA m).put (.int .i64 k) (.lit (.int .i64 g))=gA (oK (k,g) m):=by
 have hf:(m.map nM).filter (fun p=> !p.1.sameKey (.int .i64 k))=m.map nM:=by
  refine List.filter_eq_self.2 (fun p hp=> ?_);obtain ⟨q,hq,rfl⟩:=Lr.1 hp;have e:(nM q).1.sameKey (.int .i64 k)=(q.1 == k):=kH _ _;rw [e]
  have:m.find? (fun p=>p.1 == k)=none:=by simpa [cz] using hn
  have:=List.find?_eq_none.1 this q hq
  simpa using this
 show DataW.map (DataW.insert _ ((m.map nM).filter _))=_
 rw [hf]
 show DataW.map (DataW.insert (nM (k,g)) (m.map nM))= .map ((oK (k,g) m).map nM)
 congr 1
 induction m with
 | nil=>rfl
 | cons y r ih=>
  unfold oK;simp only [Lt,DataW.insert];have e:(nM (k,g)).1.before (nM y).1=decide (k < y.1):=rfl;rw [e];by_cases hlt:k < y.1
  ·simp [hlt]
  ·have hn':cz r k=none:=by
    unfold cz at hn ⊢;rw [LL] at hn
    split at hn
    ·cases hn
    ·exact hn
   have hf':(r.map nM).filter (fun p=> !p.1.sameKey (.int .i64 k))=r.map nM:=by
    simp only [Lt,LN] at hf
    split at hf
    ·exact (List.cons.inj hf).2
    ·have:=congrArg List.length hf
     have h2:=List.length_filter_le (fun p:Lit × DataW Unit=> !p.1.sameKey (.int .i64 k)) (r.map nM);simp only [Lg] at this;omega
   simp only [hlt,decide_false,J5,if_false];rw [ih hn' hf'];simp
theorem cF.put (h:cF w b m) {t e:TypeId} (ht:Tryz.prog.underlying t=some (.map 2 e)) {k:Int} (hk:(Lit.int .i64 k).wf=true) (g:Nat) (hn:cz m k=none) (hm:m.length≤1048576):
  ∃ w',(Instr.mapUpdate t (.map (some b)) (.int .i64 k) (dt g)).run J3 w= .ok () w'∧cF w' b (oK (k,g) m)∧w.mapTurned w' b:=by
 obtain ⟨w',hrun,ho,ht'⟩:=h.1.store jb ht (Nat.lt_of_le_of_lt hm (by decide)) (vX hk) (Ie g);refine ⟨w',hrun,⟨?_,DD h.2 hn⟩,ht'⟩;rw [It hn] at ho
 rwa [Bo]
end
theorem qA {m:df} {k:Int} :cz m k=none↔k∉m.map (·.1):=by
 unfold cz;rw [Option.map_eq_none_iff,List.find?_eq_none];constructor
 ·intro h hm
  obtain ⟨p,hp,e⟩:=Lr.1 hm;exact h p hp (by simp [e])
 ·intro h p hp e
  exact h (Lr.2 ⟨p,hp,by simpa using e⟩)
theorem ry (m:df) (k:Int):(cz m k).isSome=decide (k∈m.map (·.1)):=by
 by_cases h:k∈m.map (·.1)
 ·rw [decide_eq_true h]
  cases hl:cz m k with
  | none=>exact absurd h (qA.1 hl)
  | some g=>rfl
 ·rw [decide_eq_false h,qA.2 h]
  rfl
theorem jI {m:df} (hr:zP m) {p:Int × Nat} (hp:p∈m):cz m p.1=some p.2:=by
 induction m with
 | nil=>cases hp
 | cons y r ih=>
  obtain ⟨h1,h2⟩:=LM.1 hr;rcases Kt.1 hp with rfl | hp
  ·simp [cz]
  ·have:=h1 p hp
   have hne:(y.1 == p.1)=false:=by
    have: ¬ y.1=p.1:=by omega
    simp [this]
   have:=ih h2 hp
   unfold cz at this ⊢;rw [LL,hne];exact this
theorem yu {m:df} {k:Int} {g:Nat} (h:cz m k=some g):(k,g)∈m:=by
 unfold cz at h;obtain ⟨p,hp,e⟩:=Option.map_eq_some_iff.1 h;have h1:=List.mem_of_find?_eq_some hp;have h2:=List.find?_some hp;simp at h2;rw [← h2,← e];exact h1
end
section
open Go.RowKit
def Cd (os:List dN) (i:Nat):Int:=(os[i]?.getD (0,0,0,⟨#[]⟩)).1
def Cg (os:List dN) (i:Nat):Int:=(os[i]?.getD (0,0,0,⟨#[]⟩)).2.1
def Ea (os:List dN) (i:Nat):Int:=(os[i]?.getD (0,0,0,⟨#[]⟩)).2.2.1
def Ce (os:List dN) (i:Nat):ByteArray:=(os[i]?.getD (0,0,0,⟨#[]⟩)).2.2.2
def y9 (w:w_) (g:Nat) (os:List dN):Prop:=iG w g os.length (Cd os) (Cg os) (Ea os) (Ce os)
def xu (w:w_) (a:Option d_) (os:List dN):Prop:=0 < os.length→ ∃ g,a=o_ ⟨g,0,n_⟩∧y9 w g os
theorem xu.below {w w':w_} {a:Option d_} {os:List dN} (h:xu w a os) (hb:B_ w.heap.size w w'):xu w' a os:=fun hl=>by
 obtain ⟨g,rfl,hw⟩:=h hl;exact ⟨g,rfl,iG.below hw hb⟩
theorem xu.low {w w':w_} {a:Option d_} {base:Nat} {os:List dN} (h:xu w a os) (ha: ∀ q,a=o_ q→q.block < base) (hb:B_ base w w'):xu w' a os:=fun hl=>by
 obtain ⟨g,rfl,hw⟩:=h hl;exact ⟨g,rfl,iG.of_block hw (hb.block g (ha _ rfl))⟩
end
section
open Go.RowKit
attribute [local go_sem ↓] Kc Kd
theorem cQ {w w1:w_} {cs:Array v_} {t:T_} (h:B_ (w.alloc (c_ cs t)).heap.size (w.alloc (c_ cs t)) w1) (i:Nat):w1.cell? ⟨w.heap.size,i,n_⟩=cs[i]? :=
  (h.cell (p:=⟨w.heap.size,i,n_⟩) (by simp)).trans (by simp)
theorem ev {B:Nat} {w w':w_} (h:B_ B w.drew w'):B_ B w w':=⟨h.os,h.tape,h.output,h.size,h.block⟩
theorem bd {B:Nat} {w w':w_} (h:B_ B w w') (n:Nat):B_ B w (w'.drewN n):=⟨h.os,h.tape,h.output,h.size,h.block⟩
theorem dQ {w w1 w2:w_} {k n m:Int} {s:ByteArray} (HB:Hid (B_ w.heap.size w w1)) (HS:Hid (w.heap.size < w1.heap.size)) (c0:w1.cell? ⟨w.heap.size,0,n_⟩=o_ (i_ j_ k)) (c1:w1.cell? ⟨w.heap.size,1,n_⟩=o_ (i_ j_ n)) (c2:w1.cell? ⟨w.heap.size,2,n_⟩=o_ (i_ j_ m)) (c3:w1.cell? ⟨w.heap.size,3,n_⟩=o_ (t_ s)) (hb:B_ w1.heap.size w1 w2):
    Hid (B_ w.heap.size w w2)∧Hid (w.heap.size < w2.heap.size)∧w2.cell? ⟨w.heap.size,0,n_⟩=o_ (i_ j_ k)∧w2.cell? ⟨w.heap.size,1,n_⟩=o_ (i_ j_ n)∧w2.cell? ⟨w.heap.size,2,n_⟩=o_ (i_ j_ m)∧w2.cell? ⟨w.heap.size,3,n_⟩=o_ (t_ s):=
  ⟨HB.I.trans (hb.mono (Nat.le_of_lt HS.I)),Kn HS.I hb.size,(hb.cell (p:=⟨w.heap.size,0,n_⟩) HS.I).trans c0,(hb.cell (p:=⟨w.heap.size,1,n_⟩) HS.I).trans c1,(hb.cell (p:=⟨w.heap.size,2,n_⟩) HS.I).trans c2,(hb.cell (p:=⟨w.heap.size,3,n_⟩) HS.I).trans c3⟩
theorem IF {k n m:Int} {s:ByteArray} (h:pJ k):mQ k n m s=(cv n 1 1000 && decide (m=0) && bI s):=by
  unfold pJ at h;unfold mQ;rw [if_pos h]
theorem Gv {k n m:Int} {s:ByteArray} (h:mF k):mQ k n m s=(cv n 1 1000 && cv m (-1) 1000 && bI s):=by
  unfold mF at h;unfold mQ;rw [if_neg (by omega),if_pos h]
theorem He {k n m:Int} {s:ByteArray} (h:k=8):mQ k n m s=(cv n 1 1000 && cv m (-1) 1000 && bw s):=by
  unfold mQ;rw [if_neg (by omega),if_neg (by omega),if_pos h]
theorem F1 {k n m:Int} {s:ByteArray} (h:isText k):mQ k n m s=(cv n 1 1000 && decide (m=0) && bw s):=by
  unfold isText at h;unfold mQ;rw [if_neg (by omega),if_neg (by omega),if_neg (by omega),if_pos h]
theorem Gm {k n m:Int} {s:ByteArray} (h:k=17):mQ k n m s=(decide (n=0) && decide (m=0) && bI s):=by
  unfold mQ;rw [if_neg (by omega),if_neg (by omega),if_neg (by omega),if_neg (by omega),if_pos h]
theorem Du (k n m:Int) (s:ByteArray) (w:w_) (hk:pJ k):
    k_ J3 264 #[a_ #[i_ j_ k,i_ j_ n,i_ j_ m,t_ s]] w fun e w'=>e=r_ (b_ (mQ k n m s))∧B_ w.heap.size w w':=by
  have HO:Hid (mQ k n m s=(cv n 1 1000 && decide (m=0) && bI s)):=IF hk;have HK:Hid (pJ k):=hk;clear hk
  go_enter func264,ntmps264
  go_wp2_with fail;refine (DB k n m s _ HK.I).mono ?_;rintro e w1 ⟨rfl,hb1⟩;have c0:w1.cell? ⟨w.heap.size,0,n_⟩=o_ (i_ j_ k):=cQ hb1 0;have c1:w1.cell? ⟨w.heap.size,1,n_⟩=o_ (i_ j_ n):=cQ hb1 1;have c2:w1.cell? ⟨w.heap.size,2,n_⟩=o_ (i_ j_ m):=cQ hb1 2;have c3:w1.cell? ⟨w.heap.size,3,n_⟩=o_ (t_ s):=cQ hb1 3;have fQ:Hid (B_ w.heap.size w w1):=((Kp _ _).alloc (Ki _) _).trans (hb1.mono (by simp));have mH:Hid (w.heap.size < w1.heap.size):=by have:=hb1.size; simp only [RR] at this; exact this
  clear hb1;by_cases hm:m=0;rotate_left
  · have hm': ¬ 0=m:=fun h=>hm h.symm
    go_wp2_with fail
    first
      | (go_region_with
      ((first
        | (go_at_call 309
           refine (oJ _ _ _).mono ?_;rintro e w2 ⟨rfl,hb2⟩;obtain ⟨cy,mO,d0,d1,d2,d3⟩:=dQ fQ mH c0 c1 c2 c3 (ev hb2);clear hb2)
        | (go_at_call 268
           refine (mC _ _ _).mono ?_;rintro e w3 ⟨rfl,hb3⟩;obtain ⟨oh,-,f0,f1,f2,f3⟩:=dQ cy mO d0 d1 d2 d3 hb3;clear hb3))))
      | (exact absurd rfl Zdb)
    all_goals go_wp2
    all_goals go_ret
    all_goals exact ⟨al (by rw [HO.I]; simp [hm]),cy.I⟩
  subst hm;by_cases hes:s.toList= []
  rotate_left
  · have hes': ¬ [] =s.toList:=fun h=>hes h.symm
    have hem:bI s=false:=by simp [bI,hes]
    go_wp2_with fail
    first
      | (go_region_with
      ((first
        | (go_at_call 309
           refine (oJ _ _ _).mono ?_;rintro e w2 ⟨rfl,hb2⟩;obtain ⟨cy,mO,d0,d1,d2,d3⟩:=dQ fQ mH c0 c1 c2 c3 (ev hb2);clear hb2)
        | (go_at_call 268
           refine (mC _ _ _).mono ?_;rintro e w3 ⟨rfl,hb3⟩;obtain ⟨oh,-,f0,f1,f2,f3⟩:=dQ cy mO d0 d1 d2 d3 hb3;clear hb3))))
      | (exact absurd rfl Zdb)
    all_goals go_wp2
    all_goals go_ret
    all_goals exact ⟨al (by rw [HO.I]; simp [hem]),cy.I⟩
  have hem:bI s=true:=by simp [bI,hes]
  go_wp2_with fail
  first
    | (go_region_with
    ((first
      | (go_at_call 309
         refine (oJ _ _ _).mono ?_;rintro e w2 ⟨rfl,hb2⟩;obtain ⟨cy,mO,d0,d1,d2,d3⟩:=dQ fQ mH c0 c1 c2 c3 (ev hb2);clear hb2)
      | (go_at_call 268
         refine (mC _ _ _).mono ?_;rintro e w3 ⟨rfl,hb3⟩;obtain ⟨oh,-,f0,f1,f2,f3⟩:=dQ cy mO d0 d1 d2 d3 hb3;clear hb3))))
    | (exact absurd rfl Zdb)
  all_goals go_wp2
  all_goals go_ret
  all_goals exact ⟨al ZdI,oh.I⟩
theorem AB (k n m:Int) (s:ByteArray) (w:w_) (hk:mF k):
    k_ J3 264 #[a_ #[i_ j_ k,i_ j_ n,i_ j_ m,t_ s]] w fun e w'=>e=r_ (b_ (mQ k n m s))∧B_ w.heap.size w w':=by
  have HO:Hid (mQ k n m s=(cv n 1 1000 && cv m (-1) 1000 && bI s)):=Gv hk;have HK:Hid (mF k):=hk;clear hk
  go_enter func264,ntmps264
  go_wp2_with fail;refine (AC k n m s _ HK.I).mono ?_;rintro e w1 ⟨rfl,hb1⟩;have c0:w1.cell? ⟨w.heap.size,0,n_⟩=o_ (i_ j_ k):=cQ hb1 0;have c1:w1.cell? ⟨w.heap.size,1,n_⟩=o_ (i_ j_ n):=cQ hb1 1;have c2:w1.cell? ⟨w.heap.size,2,n_⟩=o_ (i_ j_ m):=cQ hb1 2;have c3:w1.cell? ⟨w.heap.size,3,n_⟩=o_ (t_ s):=cQ hb1 3;have fQ:Hid (B_ w.heap.size w w1):=((Kp _ _).alloc (Ki _) _).trans (hb1.mono (by simp));have mH:Hid (w.heap.size < w1.heap.size):=by have:=hb1.size; simp only [RR] at this; exact this
  clear hb1;by_cases hes:s.toList= []
  rotate_left
  · have hes': ¬ [] =s.toList:=fun h=>hes h.symm
    have hem:bI s=false:=by simp [bI,hes]
    go_wp2_with fail
    first
      | (go_region_with
      ((first
        | (go_at_call 310
           refine (xk _ _ _ _).mono ?_;rintro e w2 ⟨rfl,hb2⟩;obtain ⟨cy,mO,d0,d1,d2,d3⟩:=dQ fQ mH c0 c1 c2 c3 (ev hb2);clear hb2)
        | (go_at_call 268
           refine (sH _ _ _ _).mono ?_;rintro e w3 ⟨rfl,hb3⟩;obtain ⟨oh,-,f0,f1,f2,f3⟩:=dQ cy mO d0 d1 d2 d3 hb3;clear hb3))))
      | (exact absurd rfl Zdb)
    all_goals go_wp2
    all_goals go_ret
    all_goals exact ⟨al (by rw [HO.I]; simp [hem]),cy.I⟩
  have hem:bI s=true:=by simp [bI,hes]
  go_wp2_with fail
  first
    | (go_region_with
    ((first
      | (go_at_call 310
         refine (xk _ _ _ _).mono ?_;rintro e w2 ⟨rfl,hb2⟩;obtain ⟨cy,mO,d0,d1,d2,d3⟩:=dQ fQ mH c0 c1 c2 c3 (ev hb2);clear hb2)
      | (go_at_call 268
         refine (sH _ _ _ _).mono ?_;rintro e w3 ⟨rfl,hb3⟩;obtain ⟨oh,-,f0,f1,f2,f3⟩:=dQ cy mO d0 d1 d2 d3 hb3;clear hb3))))
    | (exact absurd rfl Zdb)
  all_goals go_wp2
  all_goals go_ret
  all_goals exact ⟨al ZdI,oh.I⟩
theorem BY (k n m:Int) (s:ByteArray) (w:w_) (hs:s.size≤1048576) (hk:k=8):
    k_ J3 264 #[a_ #[i_ j_ k,i_ j_ n,i_ j_ m,t_ s]] w fun e w'=>e=r_ (b_ (mQ k n m s))∧B_ w.heap.size w w':=by
  have HO:Hid (mQ k n m s=(cv n 1 1000 && cv m (-1) 1000 && bw s)):=He hk;have HK:Hid (k=8):=hk;clear hk
  go_enter func264,ntmps264
  go_wp2_with fail;refine (AE k n m s _ HK.I).mono ?_;rintro e w1 ⟨rfl,hb1⟩;have c0:w1.cell? ⟨w.heap.size,0,n_⟩=o_ (i_ j_ k):=cQ hb1 0;have c1:w1.cell? ⟨w.heap.size,1,n_⟩=o_ (i_ j_ n):=cQ hb1 1;have c2:w1.cell? ⟨w.heap.size,2,n_⟩=o_ (i_ j_ m):=cQ hb1 2;have c3:w1.cell? ⟨w.heap.size,3,n_⟩=o_ (t_ s):=cQ hb1 3;have fQ:Hid (B_ w.heap.size w w1):=((Kp _ _).alloc (Ki _) _).trans (hb1.mono (by simp));have mH:Hid (w.heap.size < w1.heap.size):=by have:=hb1.size; simp only [RR] at this; exact this
  clear hb1;go_wp2_with fail
  first
    | (go_region_with
    ((first
      | (go_at_call 311
         refine (Fc _ _ _ _ _).mono ?_;rintro e w2 ⟨rfl,hb2⟩;obtain ⟨cy,mO,d0,d1,d2,d3⟩:=dQ fQ mH c0 c1 c2 c3 (ev hb2);clear hb2)
      | (go_at_call 268
         refine (Bc _ _ _ _ _ hs).mono ?_;rintro e w3 ⟨rfl,hb3⟩;obtain ⟨oh,-,f0,f1,f2,f3⟩:=dQ cy mO d0 d1 d2 d3 hb3;clear hb3))))
    | (exact absurd rfl Zdb)
  all_goals go_wp2
  all_goals go_ret
  all_goals exact ⟨al (by rw [HO.I]),oh.I⟩
theorem BN (k n m:Int) (s:ByteArray) (w:w_) (hs:s.size≤1048576) (hk:isText k):
    k_ J3 264 #[a_ #[i_ j_ k,i_ j_ n,i_ j_ m,t_ s]] w fun e w'=>e=r_ (b_ (mQ k n m s))∧B_ w.heap.size w w':=by
  have HO:Hid (mQ k n m s=(cv n 1 1000 && decide (m=0) && bw s)):=F1 hk;have HK:Hid (isText k):=hk;clear hk
  go_enter func264,ntmps264
  go_wp2_with fail;refine (BJ k n m s _ HK.I).mono ?_;rintro e w1 ⟨rfl,hb1⟩;have c0:w1.cell? ⟨w.heap.size,0,n_⟩=o_ (i_ j_ k):=cQ hb1 0;have c1:w1.cell? ⟨w.heap.size,1,n_⟩=o_ (i_ j_ n):=cQ hb1 1;have c2:w1.cell? ⟨w.heap.size,2,n_⟩=o_ (i_ j_ m):=cQ hb1 2;have c3:w1.cell? ⟨w.heap.size,3,n_⟩=o_ (t_ s):=cQ hb1 3;have fQ:Hid (B_ w.heap.size w w1):=((Kp _ _).alloc (Ki _) _).trans (hb1.mono (by simp));have mH:Hid (w.heap.size < w1.heap.size):=by have:=hb1.size; simp only [RR] at this; exact this
  clear hb1;by_cases hm:m=0;rotate_left
  · have hm': ¬ 0=m:=fun h=>hm h.symm
    go_wp2_with fail
    first
      | (go_region_with
      ((first
        | (go_at_call 312
           refine (xS _ _ _ _).mono ?_;rintro e w2 ⟨rfl,hb2⟩;obtain ⟨cy,mO,d0,d1,d2,d3⟩:=dQ fQ mH c0 c1 c2 c3 (ev hb2);clear hb2)
        | (go_at_call 268
           refine (sL _ _ _ _ hs).mono ?_;rintro e w3 ⟨rfl,hb3⟩;obtain ⟨oh,-,f0,f1,f2,f3⟩:=dQ cy mO d0 d1 d2 d3 hb3;clear hb3))))
      | (exact absurd rfl Zdb)
    all_goals go_wp2
    all_goals go_ret
    all_goals exact ⟨al (by rw [HO.I]; simp [hm]),cy.I⟩
  subst hm;go_wp2_with fail
  first
    | (go_region_with
    ((first
      | (go_at_call 312
         refine (xS _ _ _ _).mono ?_;rintro e w2 ⟨rfl,hb2⟩;obtain ⟨cy,mO,d0,d1,d2,d3⟩:=dQ fQ mH c0 c1 c2 c3 (ev hb2);clear hb2)
      | (go_at_call 268
         refine (sL _ _ _ _ hs).mono ?_;rintro e w3 ⟨rfl,hb3⟩;obtain ⟨oh,-,f0,f1,f2,f3⟩:=dQ cy mO d0 d1 d2 d3 hb3;clear hb3))))
    | (exact absurd rfl Zdb)
  all_goals go_wp2
  all_goals go_ret
  all_goals exact ⟨al ZdI,oh.I⟩
theorem zY (k n m:Int) (s:ByteArray) (w:w_) (hk:k=17):
    k_ J3 264 #[a_ #[i_ j_ k,i_ j_ n,i_ j_ m,t_ s]] w fun e w'=>e=r_ (b_ (mQ k n m s))∧B_ w.heap.size w w':=by
  have HO:Hid (mQ k n m s=(decide (n=0) && decide (m=0) && bI s)):=Gm hk;have HK:Hid (k=17):=hk;clear hk
  go_enter func264,ntmps264
  go_wp2_with fail;refine (Ag k n m s _ HK.I).mono ?_;rintro e w1 ⟨rfl,hb1⟩;have c0:w1.cell? ⟨w.heap.size,0,n_⟩=o_ (i_ j_ k):=cQ hb1 0;have c1:w1.cell? ⟨w.heap.size,1,n_⟩=o_ (i_ j_ n):=cQ hb1 1;have c2:w1.cell? ⟨w.heap.size,2,n_⟩=o_ (i_ j_ m):=cQ hb1 2;have c3:w1.cell? ⟨w.heap.size,3,n_⟩=o_ (t_ s):=cQ hb1 3;have fQ:Hid (B_ w.heap.size w w1):=((Kp _ _).alloc (Ki _) _).trans (hb1.mono (by simp));have mH:Hid (w.heap.size < w1.heap.size):=by have:=hb1.size; simp only [RR] at this; exact this
  clear hb1;by_cases hn:n=0;rotate_left
  · have hn': ¬ 0=n:=fun h=>hn h.symm
    go_wp2_with fail
    first
      | (go_region_with
      ((first
        | (go_at_call 313
           refine (pu _ _).mono ?_;rintro e w2 ⟨rfl,hb2⟩;obtain ⟨cy,mO,d0,d1,d2,d3⟩:=dQ fQ mH c0 c1 c2 c3 (ev hb2);clear hb2)
        | (go_at_call 268
           refine (my _ _).mono ?_;rintro e w3 ⟨rfl,hb3⟩;obtain ⟨oh,-,f0,f1,f2,f3⟩:=dQ cy mO d0 d1 d2 d3 hb3;clear hb3))))
      | (exact absurd rfl Zdb)
    all_goals go_wp2
    all_goals go_ret
    all_goals exact ⟨al (by rw [HO.I]; simp [hn]),cy.I⟩
  subst hn;by_cases hm:m=0;rotate_left
  · have hm': ¬ 0=m:=fun h=>hm h.symm
    go_wp2_with fail
    first
      | (go_region_with
      ((first
        | (go_at_call 313
           refine (pu _ _).mono ?_;rintro e w2 ⟨rfl,hb2⟩;obtain ⟨cy,mO,d0,d1,d2,d3⟩:=dQ fQ mH c0 c1 c2 c3 (ev hb2);clear hb2)
        | (go_at_call 268
           refine (my _ _).mono ?_;rintro e w3 ⟨rfl,hb3⟩;obtain ⟨oh,-,f0,f1,f2,f3⟩:=dQ cy mO d0 d1 d2 d3 hb3;clear hb3))))
      | (exact absurd rfl Zdb)
    all_goals go_wp2
    all_goals go_ret
    all_goals exact ⟨al (by rw [HO.I]; simp [hm]),cy.I⟩
  subst hm;by_cases hes:s.toList= []
  rotate_left
  · have hes': ¬ [] =s.toList:=fun h=>hes h.symm
    have hem:bI s=false:=by simp [bI,hes]
    go_wp2_with fail
    first
      | (go_region_with
      ((first
        | (go_at_call 313
           refine (pu _ _).mono ?_;rintro e w2 ⟨rfl,hb2⟩;obtain ⟨cy,mO,d0,d1,d2,d3⟩:=dQ fQ mH c0 c1 c2 c3 (ev hb2);clear hb2)
        | (go_at_call 268
           refine (my _ _).mono ?_;rintro e w3 ⟨rfl,hb3⟩;obtain ⟨oh,-,f0,f1,f2,f3⟩:=dQ cy mO d0 d1 d2 d3 hb3;clear hb3))))
      | (exact absurd rfl Zdb)
    all_goals go_wp2
    all_goals go_ret
    all_goals exact ⟨al (by rw [HO.I]; simp [hem]),cy.I⟩
  have hem:bI s=true:=by simp [bI,hes]
  go_wp2_with fail
  first
    | (go_region_with
    ((first
      | (go_at_call 313
         refine (pu _ _).mono ?_;rintro e w2 ⟨rfl,hb2⟩;obtain ⟨cy,mO,d0,d1,d2,d3⟩:=dQ fQ mH c0 c1 c2 c3 (ev hb2);clear hb2)
      | (go_at_call 268
         refine (my _ _).mono ?_;rintro e w3 ⟨rfl,hb3⟩;obtain ⟨oh,-,f0,f1,f2,f3⟩:=dQ cy mO d0 d1 d2 d3 hb3;clear hb3))))
    | (exact absurd rfl Zdb)
  all_goals go_wp2
  all_goals go_ret
  all_goals exact ⟨al ZdI,oh.I⟩
theorem AY (k n m:Int) (s:ByteArray) (w:w_) (hk: ¬ (1≤k∧k≤17)):
    k_ J3 264 #[a_ #[i_ j_ k,i_ j_ n,i_ j_ m,t_ s]] w fun e w'=>e=r_ (b_ (mQ k n m s))∧B_ w.heap.size w w':=by
  rw [Bd hk]
  go_enter func264,ntmps264
  go_wp2_with fail;refine (BR k n m s _ hk).mono ?_;rintro e w1 ⟨rfl,hb1⟩;have fQ:Hid (B_ w.heap.size w w1):=((Kp _ _).alloc (Ki _) _).trans (hb1.mono (by simp));clear hb1;go_wp2_with fail
  go_quiet (fail)
  go_wp2;go_ret;exact ⟨rfl,bd fQ.I _⟩
theorem yx (k n m:Int) (s:ByteArray) (w:w_) (hs:s.size≤1048576):
    k_ J3 264 #[a_ #[i_ j_ k,i_ j_ n,i_ j_ m,t_ s]] w fun e w'=>e=r_ (b_ (mQ k n m s))∧B_ w.heap.size w w':=by
  by_cases h0:1≤k∧k≤17
  · by_cases h1:pJ k
    · exact Du k n m s w h1
    by_cases h2:mF k
    · exact AB k n m s w h2
    by_cases h3:isText k
    · exact BN k n m s w hs h3
    by_cases h4:k=8
    · exact BY k n m s w hs h4
    exact zY k n m s w ZdJ
  · exact AY k n m s w h0
end
section
open Go.RowKit
structure bD where
 id:Int
 n:Int
 max:Int
def yz (x:bD):List v_:= [i_ j_ x.id,i_ j_ x.n,i_ j_ x.max]
def dm:Kind bD:=⟨3,yz,fun _=> [],by decide,fun _=>rfl⟩
def bD.At (w:w_) (g i:Nat) (x:bD):Prop:=w.cell? ⟨g,i * 3,n_⟩=o_ (i_ j_ x.id)∧w.cell? ⟨g,i * 3+1,n_⟩=o_ (i_ j_ x.n)∧w.cell? ⟨g,i * 3+2,n_⟩=o_ (i_ j_ x.max)
theorem lQ {w:w_} {a:Option d_} {l:List bD} (h:dm.bU w a l) {i:Nat} {x:bD} (hx:l[i]? =o_ x): ∃ g,a=o_ ⟨g,0,n_⟩∧bD.At w g i x:=by
 exact Zba
structure aB where
 id:Int
 up:Bool
def rY (x:aB):List v_:= [i_ j_ x.id,b_ x.up]
def bJ:Kind aB:=⟨2,rY,fun _=> [],by decide,fun _=>rfl⟩
def aB.At (w:w_) (g i:Nat) (x:aB):Prop:=w.cell? ⟨g,i * 2,n_⟩=o_ (i_ j_ x.id)∧w.cell? ⟨g,i * 2+1,n_⟩=o_ (b_ x.up)
theorem j4 {w:w_} {a:Option d_} {l:List aB} (h:bJ.bU w a l) {i:Nat} {x:aB} (hx:l[i]? =o_ x): ∃ g,a=o_ ⟨g,0,n_⟩∧aB.At w g i x:=by
 obtain ⟨g,e,hc⟩:=h.at hx;exact ⟨g,e,hc 0 _ rfl,hc 1 _ rfl⟩
structure az where
 id:Int
 shown:Bool
 text:ByteArray
def sn (x:az):List v_:= [i_ j_ x.id,b_ x.shown,t_ x.text]
def bG:Kind az:=⟨3,sn,fun _=> [],by decide,fun _=>rfl⟩
def az.At (w:w_) (g i:Nat) (x:az):Prop:=w.cell? ⟨g,i * 3,n_⟩=o_ (i_ j_ x.id)∧w.cell? ⟨g,i * 3+1,n_⟩=o_ (b_ x.shown)∧w.cell? ⟨g,i * 3+2,n_⟩=o_ (t_ x.text)
theorem jr {w:w_} {a:Option d_} {l:List az} (h:bG.bU w a l) {i:Nat} {x:az} (hx:l[i]? =o_ x): ∃ g,a=o_ ⟨g,0,n_⟩∧az.At w g i x:=by
 exact Zba
structure ci where
 id:Int
 max:Int
 Ma:List ByteArray
structure au extends ci where
 ak:Option d_
 aq:Nat
def nD (x:au):List v_:= [i_ j_ x.id,i_ j_ x.max,s_ x.ak x.Ma.length x.aq]
def bm:Kind au:=⟨3,nD,fun x=> [(x.ak,bT.flat x.Ma)],by decide,fun _=>rfl⟩
def au.At (w:w_) (g i:Nat) (x:au):Prop:=w.cell? ⟨g,i * 3,n_⟩=o_ (i_ j_ x.id)∧w.cell? ⟨g,i * 3+1,n_⟩=o_ (i_ j_ x.max)∧w.cell? ⟨g,i * 3+2,n_⟩=o_ (s_ x.ak x.Ma.length x.aq)
theorem iA {w:w_} {a:Option d_} {l:List au} (h:bm.bU w a l) {i:Nat} {x:au} (hx:l[i]? =o_ x): ∃ g,a=o_ ⟨g,0,n_⟩∧au.At w g i x:=by
 exact Zba
theorem lj {w:w_} {a:Option d_} {l:List au} (h:bm.bU w a l) {i:Nat} {x:au} (hx:l[i]? =o_ x):Row w x.ak (bT.flat x.Ma):=h.bt hx (r:=(x.ak,bT.flat x.Ma)) ZdP
structure dS where
 id:Int
 I:Bool
 Mf:Bool
 max:Int
 Ma:List ByteArray
structure aM extends dS where
 ak:Option d_
 aq:Nat
def qT (x:aM):List v_:= [i_ j_ x.id,b_ x.I,b_ x.Mf,i_ j_ x.max,s_ x.ak x.Ma.length x.aq]
def bX:Kind aM:=⟨5,qT,fun x=> [(x.ak,bT.flat x.Ma)],by decide,fun _=>rfl⟩
def aM.At (w:w_) (g i:Nat) (x:aM):Prop:=w.cell? ⟨g,i * 5,n_⟩=o_ (i_ j_ x.id)∧w.cell? ⟨g,i * 5+1,n_⟩=o_ (b_ x.I)∧w.cell? ⟨g,i * 5+2,n_⟩=o_ (b_ x.Mf)∧w.cell? ⟨g,i * 5+3,n_⟩=o_ (i_ j_ x.max)∧w.cell? ⟨g,i * 5+4,n_⟩=o_ (s_ x.ak x.Ma.length x.aq)
theorem lm {w:w_} {a:Option d_} {l:List aM} (h:bX.bU w a l) {i:Nat} {x:aM} (hx:l[i]? =o_ x): ∃ g,a=o_ ⟨g,0,n_⟩∧aM.At w g i x:=by
 obtain ⟨g,e,hc⟩:=h.at hx;exact ⟨g,e,hc 0 _ rfl,hc 1 _ rfl,hc 2 _ rfl,hc 3 _ rfl,hc 4 _ rfl⟩
theorem nJ {w:w_} {a:Option d_} {l:List aM} (h:bX.bU w a l) {i:Nat} {x:aM} (hx:l[i]? =o_ x):Row w x.ak (bT.flat x.Ma):=h.bt hx (r:=(x.ak,bT.flat x.Ma)) ZdR
structure aD where
 id:Int
 RX:Int
 prog:List dN
 Md:Int
 pc:Int
 left:Int
 Mg:Int
 on:Int
 held:ByteArray
 got:ByteArray
 code:Int
 RU:Int
structure ao extends aD where
 aY:Option d_
 bH:Nat
def qN (x:ao):List v_:= [i_ j_ x.id,i_ j_ x.RX,s_ x.aY x.prog.length x.bH,i_ j_ x.Md,i_ j_ x.pc,i_ j_ x.left,i_ j_ x.Mg,i_ j_ x.on,t_ x.held,t_ x.got,i_ j_ x.code,i_ j_ x.RU]
def bg:Kind ao:=⟨12,qN,fun x=> [(x.aY,fk.flat x.prog)],by decide,fun _=>rfl⟩
def ao.At (w:w_) (g i:Nat) (x:ao):Prop:=w.cell? ⟨g,i * 12,n_⟩=o_ (i_ j_ x.id)∧w.cell? ⟨g,i * 12+1,n_⟩=o_ (i_ j_ x.RX)∧w.cell? ⟨g,i * 12+2,n_⟩=o_ (s_ x.aY x.prog.length x.bH)∧w.cell? ⟨g,i * 12+3,n_⟩=o_ (i_ j_ x.Md)∧w.cell? ⟨g,i * 12+4,n_⟩=o_ (i_ j_ x.pc)∧w.cell? ⟨g,i * 12+5,n_⟩=o_ (i_ j_ x.left)∧w.cell? ⟨g,i * 12+6,n_⟩=o_ (i_ j_ x.Mg)∧w.cell? ⟨g,i * 12+7,n_⟩=o_ (i_ j_ x.on)∧w.cell? ⟨g,i * 12+8,n_⟩=o_ (t_ x.held)∧w.cell? ⟨g,i * 12+9,n_⟩=o_ (t_ x.got)∧w.cell? ⟨g,i * 12+10,n_⟩=o_ (i_ j_ x.code)∧w.cell? ⟨g,i * 12+11,n_⟩=o_ (i_ j_ x.RU)
theorem cn {w:w_} {a:Option d_} {l:List ao} (h:bg.bU w a l) {i:Nat} {x:ao} (hx:l[i]? =o_ x): ∃ g,a=o_ ⟨g,0,n_⟩∧ao.At w g i x:=by
 obtain ⟨g,e,hc⟩:=h.at hx;exact ⟨g,e,hc 0 _ rfl,hc 1 _ rfl,hc 2 _ rfl,hc 3 _ rfl,hc 4 _ rfl,hc 5 _ rfl,hc 6 _ rfl,hc 7 _ rfl,hc 8 _ rfl,hc 9 _ rfl,hc 10 _ rfl,hc 11 _ rfl⟩
theorem lA {w:w_} {a:Option d_} {l:List ao} (h:bg.bU w a l) {i:Nat} {x:ao} (hx:l[i]? =o_ x):Row w x.aY (fk.flat x.prog):=h.bt hx (r:=(x.aY,fk.flat x.prog)) ZdQ
structure af where
 id:Int
 next:Int
 L8:List ao
 aN:Option d_
 aW:Nat
 aj:List bD
 bc:Option d_
 bF:Nat
 L9:List aB
 ay:Option d_
 aO:Nat
 ag:List az
 ax:Option d_
 aP:Nat
 ae:List au
 am:Option d_
 aG:Nat
 ai:List aM
 aK:Option d_
 aV:Nat
def af.cells (p:af):Array v_:= #[i_ j_ p.id,i_ j_ p.next,s_ p.aN p.L8.length p.aW,s_ p.bc p.aj.length p.bF,s_ p.ay p.L9.length p.aO,s_ p.ax p.ag.length p.aP,s_ p.am p.ae.length p.aG,s_ p.aK p.ai.length p.aV]
def af.At (w:w_) (p:af):Prop:=bg.bU w p.aN p.L8∧dm.bU w p.bc p.aj∧bJ.bU w p.ay p.L9∧bG.bU w p.ax p.ag∧bm.bU w p.am p.ae∧bX.bU w p.aK p.ai
theorem af.At.below {w w':w_} {p:af} (h:af.At w p) (hb:B_ w.heap.size w w'):af.At w' p:=⟨h.1.below hb,h.2.1.below hb,h.2.2.1.below hb,h.2.2.2.1.below hb,h.2.2.2.2.1.below hb,h.2.2.2.2.2.below hb⟩
structure aE where
 id:Int
 next:Int
 L8:List aD
 aj:List bD
 L9:List aB
 ag:List az
 ae:List ci
 ai:List dS
def af.pure (p:af):aE:=⟨p.id,p.next,p.L8.map (·.toaD),p.aj,p.L9,p.ag,p.ae.map (·.toci),p.ai.map (·.todS)⟩
def place (l:List Int) (id:Int) (i:Nat):Int:=match l with
 | [] => -1
 | x :: r=>if x=id then i else place r id (i+1)
theorem z8: ∀ (l:List Int) (id:Int) (i:Nat),place l id i= -1∨(i:Int)≤place l id i
 | [],_,_=> .inl rfl
 | y :: r,id,i=>by
  simp only [place]
  split
  ·exact .inr (by omega)
  ·rcases z8 r id (i+1) with h | h
   ·exact .inl h
   ·exact .inr (by omega)
theorem nN: ∀ {l:List Int} {id:Int} {i:Nat},place l id i= -1↔id∉l
 | [],id,i=>by simp [place]
 | y :: r,id,i=>by
  simp only [place,Kt,not_or]
  split
  ·rename_i h
   constructor
   ·intro h2; omega
   ·intro h2; exact absurd h.symm h2.1
  ·rename_i h
   rw [nN (l:=r)];exact ⟨fun h2=>⟨fun e=>h e.symm,h2⟩,fun h2=>h2.2⟩
theorem ku {l:List Int} {id:Int} {k:Nat} (h:id∉l.take k) {x:Int} (hx:l[k]? =o_ x) (e:x=id):place l id 0=k:=by
 have hk:k < l.length:=(Lj.1 hx).1;have e1:l=l.take k ++ x :: l.drop (k+1):=by
  have:=Qn k l
  rw [adH hk] at this;rw [← this];rw [Kz hk] at hx;cases hx;simp
 have key: ∀ (t:List Int) (i:Nat),id∉t→place (t ++ x :: l.drop (k+1)) id i=((i+t.length:Nat):Int):=by
  intro t
  induction t with
  | nil=>intro i _; simp [place,e]
  | cons y r ih=>
   intro i hn;simp only [Kt,not_or] at hn;simp only [Qw,place];rw [if_neg (fun h=>hn.1 h.symm),ih (i+1) hn.2];simp only [Lg];rw [show i+1+r.length=i+(r.length+1) by omega]
 have:=key (l.take k) 0 h
 rw [← e1] at this;rw [this,List.length_take]
 congr 1
 omega
abbrev af.row (p:af):Array v_:= #[i_ j_ p.id,i_ j_ p.next,s_ p.aN p.L8.length p.aW,s_ p.bc p.aj.length p.bF,s_ p.ay p.L9.length p.aO,s_ p.ax p.ag.length p.aP,s_ p.am p.ae.length p.aG,s_ p.aK p.ai.length p.aV]
abbrev af.L6 (p:af) (g:Nat):Array v_:= #[i_ j_ p.id,i_ j_ p.next,s_ (o_ ⟨g,0,n_⟩) p.L8.length p.aW,s_ p.bc p.aj.length p.bF,s_ p.ay p.L9.length p.aO,s_ p.ax p.ag.length p.aP,s_ p.am p.ae.length p.aG,s_ p.aK p.ai.length p.aV]
abbrev ao.row (x:ao):Array v_:= #[i_ j_ x.id,i_ j_ x.RX,s_ x.aY x.prog.length x.bH,i_ j_ x.Md,i_ j_ x.pc,i_ j_ x.left,i_ j_ x.Mg,i_ j_ x.on,t_ x.held,t_ x.got,i_ j_ x.code,i_ j_ x.RU]
abbrev ar:Array v_:= #[i_ j_ 0,i_ j_ 0,s_ n_ 0 0,s_ n_ 0 0,s_ n_ 0 0,s_ n_ 0 0,s_ n_ 0 0,s_ n_ 0 0]
abbrev cE:Array v_:= #[i_ j_ 0,i_ j_ 0,s_ n_ 0 0,i_ j_ 0,i_ j_ 0,i_ j_ 0,i_ j_ 0,i_ j_ 0,t_ ⟨#[]⟩,t_ ⟨#[]⟩,i_ j_ 0,i_ j_ 0]
theorem vv (g len cap:Nat) (K N M:Nat→Int) (S:Nat→ByteArray) (w:w_) (hl:len≤1048576) (hs: ∀ i,i < len→(S i).size≤1048576) (hr:iG w g len K N M S):
  k_ J3 100 #[s_ (o_ ⟨g,0,n_⟩) len cap] w fun e w'=>e=r_ (b_ (nq len K N M S))∧B_ w.heap.size w w':=by
 have HR:Hid (iG w g len K N M S):=hr;have HS:Hid (∀ i,i < len→(S i).size≤1048576):=hs;clear hr hs
 go_enter func100,ntmps100
 go_wp2
 go_loopw [3] (fun i wr=> ∃ k:Nat,k≤len∧i=i_ j_ k∧(∀ j,j < k→j8 K N M S j=true)∧B_ w.heap.size w wr) (fun i _=>len - (intOf i).toNat)
 case atStart=>exact ⟨0,Ky _,rfl,fun j hj=>absurd hj (by omega),Kp _ _⟩
 case round=>
  obtain ⟨k,hk,rfl,hall,kj⟩:=hrel;have HA:Hid (∀ j,j < k→j8 K N M S j=true):=hall;have HB:Hid (B_ w.heap.size w wr):=kj;have HW:Hid (iG wr g len K N M S):=HR.I.below kj;clear hall kj;by_cases hlt:k < len
  ·have c0:=HW.I.c0 hlt
   have c1:=HW.I.c1 hlt;have c2:=HW.I.c2 hlt;have c3:=HW.I.c3 hlt;have i0:(0:Int)≤(k:Int):=by omega
   have i1:(k:Int) < (len:Int):=by omega
   go_wp2_with fail;refine (xZ (K k) (N k) (M k) (S k) wr (HS.I k hlt)).mono ?_;rintro e w1 ⟨rfl,hb1⟩;have fQ:Hid (B_ w.heap.size w w1):=HB.I.trans (hb1.mono HB.I.size);exact A_
  ·have e:k=len:=by omega
   subst e;by_cases h1:1≤k
   ·have h1':(1:Int)≤(k:Int):=by omega
    by_cases h2:k≤20
    ·have h2':(k:Int)≤20:=by omega
     go_wp2;go_ret;exact ⟨al (by rw [vM ⟨h1,h2,HA.I⟩]),HB.I⟩
    ·have h2': ¬ (k:Int)≤20:=by omega
     go_wp2;go_ret;exact ⟨al (by rw [iS (fun h=>h2 h.2.1)]),HB.I⟩
   ·have h1': ¬ (1:Int)≤(k:Int):=by omega
    go_wp2;go_ret;exact ⟨al (by rw [iS (fun h=>h1 h.1)]),HB.I⟩
theorem tV (g len cap:Nat) (K N M:Nat→Int) (S:Nat→ByteArray) (w:w_) (hl:len≤1048576) (hs: ∀ i,i < len→(S i).size≤1048576) (hr:iG w g len K N M S):
  k_ J3 261 #[s_ (o_ ⟨g,0,n_⟩) len cap] w fun e w'=>e=r_ (b_ (nq len K N M S))∧B_ w.heap.size w w':=by
 have HR:Hid (iG w g len K N M S):=hr;have HS:Hid (∀ i,i < len→(S i).size≤1048576):=hs;clear hr hs;by_cases h1: ¬ 1≤len
 ·have h1':(len:Int) < 1:=by omega
  go_enter func261,ntmps261
  go_wp2;go_ret;exact ⟨al (iS (fun h=>h1 h.1)).symm,Kp _ _⟩
 have h1': ¬ (len:Int) < 1:=by omega
 by_cases h2:20 < len
 ·have h2':(20:Int) < (len:Int):=by omega
  go_enter func261,ntmps261
  go_wp2;go_ret;exact ⟨al (iS (fun h=>by omega)).symm,Kp _ _⟩
 have h2': ¬ (20:Int) < (len:Int):=by omega
 go_enter func261,ntmps261
 go_wp2_with fail
 go_loopw [15] (fun i wr=> ∃ k:Nat,k≤len∧i=i_ j_ k∧(∀ j,j < k→j8 K N M S j=true)∧B_ w.heap.size w wr) (fun i _=>len - (intOf i).toNat)
 case atStart=>exact ⟨0,Ky _,rfl,fun j hj=>absurd hj (by omega),Kp _ _⟩
 case round=>
  obtain ⟨k,hk,rfl,hall,kj⟩:=hrel;have HA:Hid (∀ j,j < k→j8 K N M S j=true):=hall;have HB:Hid (B_ w.heap.size w wr):=kj;have HW:Hid (iG wr g len K N M S):=HR.I.below kj;clear hall kj;by_cases hlt:k < len
  ·have c0:=HW.I.c0 hlt
   have c1:=HW.I.c1 hlt;have c2:=HW.I.c2 hlt;have c3:=HW.I.c3 hlt;have i0:(0:Int)≤(k:Int):=by omega
   have i1:(k:Int) < (len:Int):=by omega
   have hgl:=HW.I.1;go_wp2_with fail;refine (yx (K k) (N k) (M k) (S k) _ (HS.I k hlt)).mono ?_;rintro e w1 ⟨rfl,hb1⟩;have fQ:Hid (B_ w.heap.size w w1):=(HB.I.alloc HB.I.size _).trans (hb1.mono (by have:=HB.I.size; simp; omega));exact A_
  ·have e:k=len:=by omega
   subst e;go_wp2;go_ret;exact ⟨al (vM ⟨by omega,by omega,HA.I⟩).symm,HB.I⟩
theorem nh {l:List Int} {k:Nat} {id x:Int} (h:id∉l.take k) (hx:l[k]? =o_ x) (hne: ¬ x=id):id∉l.take (k+1):=by
 have hk:k < l.length:=(Lj.1 hx).1;rw [QE hk,List.mem_append,List.mem_singleton];rw [Kz hk] at hx;cases hx;rintro (h1 | h1)
 ·exact h h1
 ·exact hne h1.symm
theorem jg {l:List Int} {k:Nat} {id:Int} (h:id∉l.take k) (hk:l.length≤k):place l id 0= -1:=by
 rw [KF hk] at h;exact nN.2 h
theorem lS (p:af) (id:Int) (w:w_) (hl:p.L8.length≤1048576) (h:af.At w p):
  k_ J3 149 #[a_ p.cells,i_ j_ id] w fun e w'=>e=r_ (i_ j_ (place (p.L8.map (·.id)) id 0))∧B_ w.heap.size w w':=by
 have H:Hid (bg.bU (w.alloc (c_ p.cells 38)) p.aN p.L8∧B_ w.heap.size w (w.alloc (c_ p.cells 38))):=⟨h.1.below ((Kp _ _).alloc (Ki _) _),(Kp _ _).alloc (Ki _) _⟩
 have q:(w.alloc (c_ p.cells 38)).cell? ⟨w.heap.size,2,n_⟩=o_ (s_ p.aN p.L8.length p.aW):=by rw [K5 _ _ _ _ _ _ (Kj _ _)]; rfl
 clear h;unfold af.cells at *
 go_enter func149,ntmps149
 go_wp2_with fail;generalize w.alloc (c_ p.row 38)=W at *
 go_loop [5] (fun i=> ∃ k:Nat,k≤p.L8.length∧i=i_ j_ k∧Hid (id∉(p.L8.map (·.id)).take k)) (fun i=>p.L8.length - (intOf i).toNat)
 case atStart=>exact ⟨0,Ky _,rfl,(by simp:id∉(p.L8.map (·.id)).take 0)⟩
 case round=>
  obtain ⟨k,hk,rfl,HA⟩:=hrel;by_cases hlt:k < p.L8.length
  ·have i0:(0:Int)≤(k:Int):=by omega
   have i1:(k:Int) < (p.L8.length:Int):=by omega
   obtain ⟨x,hx⟩: ∃ x,p.L8[k]? =o_ x:=⟨_,Kz hlt⟩
   have HX:Hid ((p.L8.map (·.id))[k]? =o_ x.id):=by show _=_; rw [Kk,hx]; rfl
   obtain ⟨g,ha,hat⟩:=cn H.I.1 hx;exact ba
  ·have i1: ¬ (k:Int) < (p.L8.length:Int):=by omega
   exact U_
theorem lw (p:af) (id:Int) (w:w_) (hl:p.aj.length≤1048576) (h:af.At w p):
  k_ J3 141 #[a_ p.cells,i_ j_ id] w fun e w'=>e=r_ (i_ j_ (place (p.aj.map (·.id)) id 0))∧B_ w.heap.size w w':=by
 have H:Hid (dm.bU (w.alloc (c_ p.cells 38)) p.bc p.aj∧B_ w.heap.size w (w.alloc (c_ p.cells 38))):=⟨h.2.1.below ((Kp _ _).alloc (Ki _) _),(Kp _ _).alloc (Ki _) _⟩
 have q:(w.alloc (c_ p.cells 38)).cell? ⟨w.heap.size,3,n_⟩=o_ (s_ p.bc p.aj.length p.bF):=by rw [K5 _ _ _ _ _ _ (Kj _ _)]; rfl
 clear h;unfold af.cells at *
 go_enter func141,ntmps141
 go_wp2_with fail;generalize w.alloc (c_ p.row 38)=W at *
 go_loop [5] (fun i=> ∃ k:Nat,k≤p.aj.length∧i=i_ j_ k∧Hid (id∉(p.aj.map (·.id)).take k)) (fun i=>p.aj.length - (intOf i).toNat)
 case atStart=>exact ⟨0,Ky _,rfl,(by simp:id∉(p.aj.map (·.id)).take 0)⟩
 case round=>
  obtain ⟨k,hk,rfl,HA⟩:=hrel;by_cases hlt:k < p.aj.length
  ·have i0:(0:Int)≤(k:Int):=by omega
   have i1:(k:Int) < (p.aj.length:Int):=by omega
   obtain ⟨x,hx⟩: ∃ x,p.aj[k]? =o_ x:=⟨_,Kz hlt⟩
   have HX:Hid ((p.aj.map (·.id))[k]? =o_ x.id):=by show _=_; rw [Kk,hx]; rfl
   obtain ⟨g,ha,hat⟩:=lQ H.I.1 hx;exact ba
  ·have i1: ¬ (k:Int) < (p.aj.length:Int):=by omega
   exact U_
theorem ml (p:af) (id:Int) (w:w_) (hl:p.L9.length≤1048576) (h:af.At w p):
  k_ J3 142 #[a_ p.cells,i_ j_ id] w fun e w'=>e=r_ (i_ j_ (place (p.L9.map (·.id)) id 0))∧B_ w.heap.size w w':=by
 have H:Hid (bJ.bU (w.alloc (c_ p.cells 38)) p.ay p.L9∧B_ w.heap.size w (w.alloc (c_ p.cells 38))):=⟨h.2.2.1.below ((Kp _ _).alloc (Ki _) _),(Kp _ _).alloc (Ki _) _⟩
 have q:(w.alloc (c_ p.cells 38)).cell? ⟨w.heap.size,4,n_⟩=o_ (s_ p.ay p.L9.length p.aO):=by rw [K5 _ _ _ _ _ _ (Kj _ _)]; rfl
 clear h;unfold af.cells at *
 go_enter func142,ntmps142
 go_wp2_with fail;generalize w.alloc (c_ p.row 38)=W at *
 go_loop [5] (fun i=> ∃ k:Nat,k≤p.L9.length∧i=i_ j_ k∧Hid (id∉(p.L9.map (·.id)).take k)) (fun i=>p.L9.length - (intOf i).toNat)
 case atStart=>exact ⟨0,Ky _,rfl,(by simp:id∉(p.L9.map (·.id)).take 0)⟩
 case round=>
  obtain ⟨k,hk,rfl,HA⟩:=hrel;by_cases hlt:k < p.L9.length
  ·have i0:(0:Int)≤(k:Int):=by omega
   have i1:(k:Int) < (p.L9.length:Int):=by omega
   obtain ⟨x,hx⟩: ∃ x,p.L9[k]? =o_ x:=⟨_,Kz hlt⟩
   have HX:Hid ((p.L9.map (·.id))[k]? =o_ x.id):=by show _=_; rw [Kk,hx]; rfl
   obtain ⟨g,ha,hat⟩:=j4 H.I.1 hx;exact ba
  ·have i1: ¬ (k:Int) < (p.L9.length:Int):=by omega
   exact U_
theorem mg (p:af) (id:Int) (w:w_) (hl:p.ag.length≤1048576) (h:af.At w p):
  k_ J3 144 #[a_ p.cells,i_ j_ id] w fun e w'=>e=r_ (i_ j_ (place (p.ag.map (·.id)) id 0))∧B_ w.heap.size w w':=by
 have H:Hid (bG.bU (w.alloc (c_ p.cells 38)) p.ax p.ag∧B_ w.heap.size w (w.alloc (c_ p.cells 38))):=⟨h.2.2.2.1.below ((Kp _ _).alloc (Ki _) _),(Kp _ _).alloc (Ki _) _⟩
 have q:(w.alloc (c_ p.cells 38)).cell? ⟨w.heap.size,5,n_⟩=o_ (s_ p.ax p.ag.length p.aP):=by rw [K5 _ _ _ _ _ _ (Kj _ _)]; rfl
 clear h;unfold af.cells at *
 go_enter func144,ntmps144
 go_wp2_with fail;generalize w.alloc (c_ p.row 38)=W at *
 go_loop [5] (fun i=> ∃ k:Nat,k≤p.ag.length∧i=i_ j_ k∧Hid (id∉(p.ag.map (·.id)).take k)) (fun i=>p.ag.length - (intOf i).toNat)
 case atStart=>exact ⟨0,Ky _,rfl,(by simp:id∉(p.ag.map (·.id)).take 0)⟩
 case round=>
  obtain ⟨k,hk,rfl,HA⟩:=hrel;by_cases hlt:k < p.ag.length
  ·have i0:(0:Int)≤(k:Int):=by omega
   have i1:(k:Int) < (p.ag.length:Int):=by omega
   obtain ⟨x,hx⟩: ∃ x,p.ag[k]? =o_ x:=⟨_,Kz hlt⟩
   have HX:Hid ((p.ag.map (·.id))[k]? =o_ x.id):=by show _=_; rw [Kk,hx]; rfl
   obtain ⟨g,ha,hat⟩:=jr H.I.1 hx;exact ba
  ·have i1: ¬ (k:Int) < (p.ag.length:Int):=by omega
   exact U_
theorem lr (p:af) (id:Int) (w:w_) (hl:p.ae.length≤1048576) (h:af.At w p):
  k_ J3 143 #[a_ p.cells,i_ j_ id] w fun e w'=>e=r_ (i_ j_ (place (p.ae.map (·.id)) id 0))∧B_ w.heap.size w w':=by
 have H:Hid (bm.bU (w.alloc (c_ p.cells 38)) p.am p.ae∧B_ w.heap.size w (w.alloc (c_ p.cells 38))):=⟨h.2.2.2.2.1.below ((Kp _ _).alloc (Ki _) _),(Kp _ _).alloc (Ki _) _⟩
 have q:(w.alloc (c_ p.cells 38)).cell? ⟨w.heap.size,6,n_⟩=o_ (s_ p.am p.ae.length p.aG):=by rw [K5 _ _ _ _ _ _ (Kj _ _)]; rfl
 clear h;unfold af.cells at *
 go_enter func143,ntmps143
 go_wp2_with fail;generalize w.alloc (c_ p.row 38)=W at *
 go_loop [5] (fun i=> ∃ k:Nat,k≤p.ae.length∧i=i_ j_ k∧Hid (id∉(p.ae.map (·.id)).take k)) (fun i=>p.ae.length - (intOf i).toNat)
 case atStart=>exact ⟨0,Ky _,rfl,(by simp:id∉(p.ae.map (·.id)).take 0)⟩
 case round=>
  obtain ⟨k,hk,rfl,HA⟩:=hrel;by_cases hlt:k < p.ae.length
  ·have i0:(0:Int)≤(k:Int):=by omega
   have i1:(k:Int) < (p.ae.length:Int):=by omega
   obtain ⟨x,hx⟩: ∃ x,p.ae[k]? =o_ x:=⟨_,Kz hlt⟩
   have HX:Hid ((p.ae.map (·.id))[k]? =o_ x.id):=by show _=_; rw [Kk,hx]; rfl
   obtain ⟨g,ha,hat⟩:=iA H.I.1 hx;exact ba
  ·have i1: ¬ (k:Int) < (p.ae.length:Int):=by omega
   exact U_
theorem uV (p:af) (id:Int) (w:w_) (hl:p.ai.length≤1048576) (h:af.At w p):
  k_ J3 148 #[a_ p.cells,i_ j_ id] w fun e w'=>e=r_ (i_ j_ (place (p.ai.map (·.id)) id 0))∧B_ w.heap.size w w':=by
 have H:Hid (bX.bU (w.alloc (c_ p.cells 38)) p.aK p.ai∧B_ w.heap.size w (w.alloc (c_ p.cells 38))):=⟨h.2.2.2.2.2.below ((Kp _ _).alloc (Ki _) _),(Kp _ _).alloc (Ki _) _⟩
 have q:(w.alloc (c_ p.cells 38)).cell? ⟨w.heap.size,7,n_⟩=o_ (s_ p.aK p.ai.length p.aV):=by rw [K5 _ _ _ _ _ _ (Kj _ _)]; rfl
 clear h;unfold af.cells at *
 go_enter func148,ntmps148
 go_wp2_with fail;generalize w.alloc (c_ p.row 38)=W at *
 go_loop [5] (fun i=> ∃ k:Nat,k≤p.ai.length∧i=i_ j_ k∧Hid (id∉(p.ai.map (·.id)).take k)) (fun i=>p.ai.length - (intOf i).toNat)
 case atStart=>exact ⟨0,Ky _,rfl,(by simp:id∉(p.ai.map (·.id)).take 0)⟩
 case round=>
  obtain ⟨k,hk,rfl,HA⟩:=hrel;by_cases hlt:k < p.ai.length
  ·have i0:(0:Int)≤(k:Int):=by omega
   have i1:(k:Int) < (p.ai.length:Int):=by omega
   obtain ⟨x,hx⟩: ∃ x,p.ai[k]? =o_ x:=⟨_,Kz hlt⟩
   have HX:Hid ((p.ai.map (·.id))[k]? =o_ x.id):=by show _=_; rw [Kk,hx]; rfl
   obtain ⟨g,ha,hat⟩:=lm H.I.1 hx;exact ba
  ·have i1: ¬ (k:Int) < (p.ai.length:Int):=by omega
   exact U_
def dJ (l:List ByteArray) (Me:Int):Bool:=l.all bw && decide ((l.length:Int)≤Me)
theorem xL {l:List ByteArray} {Me:Int} {k:Nat} {x:ByteArray} (hx:l[k]? =o_ x) (h:bw x=false):dJ l Me=false:=by
 have:l.all bw=false:=by
  rw [List.all_eq_false];exact ⟨x,KA hx,by simp [h]⟩
 simp [dJ,this]
theorem pQ {l:List ByteArray} {k:Nat} {x:ByteArray} (h:(l.take k).all bw=true) (hx:l[k]? =o_ x) (hp:bw x=true):(l.take (k+1)).all bw=true:=by
 have hk:k < l.length:=(Lj.1 hx).1;rw [QE hk,List.all_append,h];rw [Kz hk] at hx;cases hx;simp [hp]
theorem zl {w:w_} {a:Option d_} {l:List ByteArray} (h:Row w a (bT.flat l)) {k:Nat} {x:ByteArray} (hx:l[k]? =o_ x): ∃ g,a=o_ ⟨g,0,n_⟩∧w.cell? ⟨g,k,n_⟩=o_ (t_ x):=by
 have h1:(bT.flat l)[k]? =o_ (t_ x):=by
  have:=bT.jw hx (j:=0) (by decide)
  simpa [bT] using this
 exact h k _ h1
theorem Aj (a:Option d_) (l:List ByteArray) (cap:Nat) (Me:Int) (w:w_) (hl:l.length≤1048576) (hs: ∀ x∈l,x.size≤1048576) (h:Row w a (bT.flat l)):
  k_ J3 99 #[s_ a l.length cap,i_ j_ Me] w fun e w'=>e=r_ (b_ (dJ l Me))∧w'=w:=by
 have H:Hid (Row w a (bT.flat l)∧ ∀ x∈l,x.size≤1048576):=⟨h,hs⟩
 clear h hs
 go_enter func99,ntmps99
 go_wp2_with fail
 go_loop [5] (fun i=> ∃ k:Nat,k≤l.length∧i=i_ j_ k∧Hid ((l.take k).all bw=true)) (fun i=>l.length - (intOf i).toNat)
 case atStart=>exact ⟨0,Ky _,rfl,(by simp:(l.take 0).all bw=true)⟩
 case round=>
  obtain ⟨k,hk,rfl,HA⟩:=hrel;by_cases hlt:k < l.length
  ·have i0:(0:Int)≤(k:Int):=by omega
   have i1:(k:Int) < (l.length:Int):=by omega
   obtain ⟨x,hx⟩: ∃ x,l[k]? =o_ x:=⟨_,Kz hlt⟩
   have HX:Hid (l[k]? =o_ x):=hx;obtain ⟨g,rfl,c0⟩:=zl H.I.1 hx;have hxs:=H.I.2 x (KA hx);clear hx;go_wp2_with fail;refine (jC x w hxs).mono ?_;rintro e w' ⟨rfl,rfl⟩;cases hp:bw x with
   | true=>
    exact Za8
   | false=>
    have HP:Hid (bw x=false):=hp;clear hp;go_wp2;go_ret;exact ⟨al (xL HX.I HP.I).symm,rfl⟩
  ·have i1: ¬ (k:Int) < (l.length:Int):=by omega
   have HT:Hid (l.all bw=true):=by have:=HA.I; rwa [KF (by omega)] at this
   have e1:wrap64 (l.length:Int)=l.length:=by unfold wrap64; omega
   go_wp2;go_ret;exact ⟨al (by rw [dJ,HT.I]; simp),rfl⟩
def hasB (p:aE) (Md id:Int):Bool:=
 if Md=3 then decide (id∈p.aj.map (·.id)) else if Md=4 then decide (id∈p.L9.map (·.id))
 else if Md=5∨Md=6 then decide (id∈p.ae.map (·.id)) else if Md=7 then decide (id∈p.ag.map (·.id)) else false
theorem mV (l:List Int) (id:Int):decide (0≤place l id 0)=decide (id∈l):=by
 by_cases h:id∈l
 ·rw [decide_eq_true h]
  rcases z8 l id 0 with h1 | h1
  ·exact absurd h (nN.1 h1)
  ·exact decide_eq_true (by simpa using h1)
 ·rw [decide_eq_false h,nN.2 h]
  rfl
structure af.dX (p:af):Prop where
 L8:p.L8.length≤1048576
 aj:p.aj.length≤1048576
 L9:p.L9.length≤1048576
 ag:p.ag.length≤1048576
 ae:p.ae.length≤1048576
 ai:p.ai.length≤1048576
theorem xT (p:af) (Md id:Int) (w:w_) (hl:p.dX) (h:af.At w p):
  k_ J3 101 #[a_ p.cells,i_ j_ Md,i_ j_ id] w fun e w'=>e=r_ (b_ (hasB p.pure Md id))∧B_ w.heap.size w w':=by
 have hp:p.cells=p.row:=rfl;have H:Hid ((af.At (w.alloc (c_ p.cells 38)) p∧B_ w.heap.size w (w.alloc (c_ p.cells 38)))∧p.dX):=⟨⟨h.below ((Kp _ _).alloc (Ki _) _),(Kp _ _).alloc (Ki _) _⟩,hl⟩
 rw [hp] at H;rw [hp];clear h hl hp;by_cases s3:Md=3
 ·subst s3
  go_enter func101,ntmps101
  go_wp2_with fail;refine (lw p id _ H.I.2.aj H.I.1.1).mono ?_;rintro e w1 ⟨rfl,hb1⟩;have HB:Hid (B_ w.heap.size w w1):=H.I.1.2.trans (hb1.mono (by simp));have HM:Hid (decide (0≤place (p.aj.map (·.id)) id 0)=decide (id∈p.aj.map (·.id))):=mV _ id;exact Zaa
 by_cases s4:Md=4
 ·subst s4
  go_enter func101,ntmps101
  go_wp2_with fail;refine (ml p id _ H.I.2.L9 H.I.1.1).mono ?_;rintro e w1 ⟨rfl,hb1⟩;have HB:Hid (B_ w.heap.size w w1):=H.I.1.2.trans (hb1.mono (by simp));have HM:Hid (decide (0≤place (p.L9.map (·.id)) id 0)=decide (id∈p.L9.map (·.id))):=mV _ id;exact Zaa
 by_cases s5:Md=5
 ·subst s5
  exact P_
 by_cases s6:Md=6
 ·subst s6
  exact P_
 by_cases s7:Md=7
 ·subst s7
  go_enter func101,ntmps101
  go_wp2_with fail;refine (mg p id _ H.I.2.ag H.I.1.1).mono ?_;rintro e w1 ⟨rfl,hb1⟩;have HB:Hid (B_ w.heap.size w w1):=H.I.1.2.trans (hb1.mono (by simp));have HM:Hid (decide (0≤place (p.ag.map (·.id)) id 0)=decide (id∈p.ag.map (·.id))):=mV _ id;exact Zaa
 have e3:(Md == 3)=false:=by simp [s3]
 have e4:(Md == 4)=false:=by simp [s4]
 have e5:(Md == 5)=false:=by simp [s5]
 have e6:(Md == 6)=false:=by simp [s6]
 have e7:(Md == 7)=false:=by simp [s7]
 have HN:Hid (hasB p.pure Md id=false):=by show hasB p.pure Md id=false; simp [hasB,s3,s4,s5,s6,s7]
 clear s3 s4 s5 s6 s7
 go_enter func101,ntmps101
 go_wp2;go_ret;exact ⟨al HN.I.symm,H.I.1.2⟩
theorem ag9 {W:w_} {B:Nat} {p:af} {T:T_} (h:W.heap[B]? =o_ (c_ p.row T)):W.cell? ⟨B,0,n_⟩=o_ (i_ j_ p.id)∧W.cell? ⟨B,1,n_⟩=o_ (i_ j_ p.next)∧W.cell? ⟨B,2,n_⟩=o_ (s_ p.aN p.L8.length p.aW)∧W.cell? ⟨B,3,n_⟩=o_ (s_ p.bc p.aj.length p.bF)∧W.cell? ⟨B,4,n_⟩=o_ (s_ p.ay p.L9.length p.aO)∧W.cell? ⟨B,5,n_⟩=o_ (s_ p.ax p.ag.length p.aP)∧W.cell? ⟨B,6,n_⟩=o_ (s_ p.am p.ae.length p.aG)∧W.cell? ⟨B,7,n_⟩=o_ (s_ p.aK p.ai.length p.aV):=by
 simp [World.cell?,h]
def rM:ByteArray:=⟨#[]⟩
def jm (l:List dN):Bool:=nq l.length (Cd l) (Cg l) (Ea l) (Ce l)
def gw (x:bD):Bool:=cv x.max 1 1000 && cv x.n 0 x.max
def ey (_:aB):Bool:=true
def cU (x:az):Bool:=bw x.text && (x.shown || bI x.text)
def ct (x:ci):Bool:=cv x.max 1 5 && dJ x.Ma x.max
def dj (x:dS):Bool:=cv x.max 1 5 && (x.Mf || decide (x.max=1)) && dJ x.Ma x.max
def aw {α:Type} (num:α→Int) (ok:α→Bool):Int→List α→Bool
 | _,[] =>true
 | last,x :: r=>cv (num x) 1 1000 && decide (last < num x) && ok x && aw num ok (num x) r
def bW {α:Type} (num:α→Int):Int→List α→Int
 | last,[] =>last
 | _,x :: r=>bW num (num x) r
section
variable {α:Type} {num:α→Int} {ok:α→Bool}
theorem lH: ∀ (l r:List α) (last:Int),aw num ok last (l ++ r)=(aw num ok last l && aw num ok (bW num last l) r)
 | [],r,last=>by simp [aw,bW]
 | x :: l,r,last=>by
  simp only [Qw,aw,bW,lH l r (num x),Bool.and_assoc]
theorem pL: ∀ (l:List α) (x:α) (last:Int),bW num last (l ++ [x])=num x
 | [],_,_=>rfl
 | y :: l,x,_=>pL l x (num y)
theorem kL {l:List α} {k:Nat} {x:α} (hx:l[k]? =o_ x):l=l.take k ++ x :: l.drop (k+1):=by
 have hk:k < l.length:=(Lj.1 hx).1;rw [Kz hk] at hx;cases hx
 have:=Qn k l
 rw [adH hk] at this;exact this.symm
theorem cj {l:List α} {k:Nat} {x:α} (hx:l[k]? =o_ x):l.take (k+1)=l.take k ++ [x] :=by
 have hk:k < l.length:=(Lj.1 hx).1;rw [Kz hk] at hx;cases hx;exact QE hk
theorem eG {l:List α} {k:Nat} {x:α} (hx:l[k]? =o_ x) (last:Int):bW num last (l.take (k+1))=num x:=by
 rw [cj hx,pL]
theorem ed {l:List α} {k:Nat} {x:α} {last:Int} (h:aw num ok last (l.take k)=true) (hx:l[k]? =o_ x) (h1:cv (num x) 1 1000=true) (h2:bW num last (l.take k) < num x) (h3:ok x=true):aw num ok last (l.take (k+1))=true:=by
 rw [cj hx,lH,h];simp [aw,h1,h2,h3]
theorem bS {l:List α} {k:Nat} {x:α} {last:Int} (hx:l[k]? =o_ x) (h: ¬ (cv (num x) 1 1000=true∧bW num last (l.take k) < num x∧ok x=true)):aw num ok last l=false:=by
 rw [kL hx,lH]
 have:aw num ok (bW num last (l.take k)) (x :: l.drop (k+1))=false:=by
  simp only [aw];cases h1:cv (num x) 1 1000 <;> simp
  by_cases h2:bW num last (l.take k) < num x
  ·cases h3:ok x
   ·simp
   ·exact absurd ⟨h1,h2,h3⟩ h
  ·simp [h2]
 rw [this,PP]
theorem cK {l:List α} {last:Int} (h:aw num ok last l=true): ∀ x∈l,cv (num x) 1 1000=true∧ok x=true:=by
 induction l generalizing last with
 | nil=>intro x hx; cases hx
 | cons y r ih=>
  simp only [aw,J7] at h;intro x hx;rcases Kt.1 hx with rfl | hx
  ·exact ⟨h.1.1.1,h.1.2⟩
  ·exact ih h.2 x hx
theorem nC {ok':α→Bool} {l:List α} {last:Int} :aw num (fun x=>ok x && ok' x) last l=(aw num ok last l && l.all ok'):=by
 induction l generalizing last with
 | nil=>rfl
 | cons y r ih=>
  simp only [aw,ih,List.all_cons];cases cv (num y) 1 1000 <;> cases decide (last < num y) <;> cases ok y <;> cases ok' y <;> simp
end
theorem jL {α β:Type} (f:α→β) (num:β→Int) (ok:β→Bool) (l:List α) (last:Int):aw num ok last (l.map f)=aw (fun x=>num (f x)) (fun x=>ok (f x)) last l:=by
 induction l generalizing last with
 | nil=>rfl
 | cons y r ih=>simp only [Lt,aw,ih]
def opAt (x:aD):dN:=x.prog[x.pc.toNat]?.getD (0,0,0,rM)
def dU (x:aD):Bool:=cv x.pc 0 ((x.prog.length:Int) - 1)
def jJ (x:aD):Bool:=if (opAt x).1=1 then decide (0≤x.left) && decide (x.left < (opAt x).2.1) else decide (x.left=0)
def lh (t:Int):Bool:=cv t 1 2000000000 || decide (t= -1)
def bO (x:aD):Bool:=
 if x.Md=0 then decide (x.pc=0) && decide (x.left=0) && decide (x.Mg=0) && decide (x.on=0) && decide (x.RU=0) && bI x.held
 else if x.Md=1 then dU x && jJ x && decide (x.Mg=0) && decide (x.on=0) && bI x.held
 else if x.Md=2 then dU x && decide (x.left=0) && cv x.Mg 1 2000000000 && decide (x.on=0) && bI x.held
 else if x.Md=5 then dU x && decide (x.left=0) && lh x.Mg
 else if x.Md=3∨x.Md=4∨x.Md=6∨x.Md=7 then dU x && decide (x.left=0) && lh x.Mg && bI x.held
 else false
def cH (x:aD):Bool:=cv x.RX 1 50 && jm x.prog && bw x.held && bw x.got && cv x.code 0 3 && bO x
def fF (next:Int) (x:aD):Bool:=decide (x.Md=0) || cv x.RU 1 (next - 1)
def dG (p:aE) (x:aD):Bool:=if 3≤x.Md then hasB p x.Md x.on else true
def rb (l:List aD):Prop:=(l.map (·.RU)).Pairwise (fun a b=> ¬ (a=b∧0 < b))
structure aQ (p:aE):Prop where
 id:cv p.id 1 6=true
 next:cv p.next 1 1000000000=true
 dl:p.L8.length≤6
 fx:p.aj.length≤5
 cD:p.L9.length≤5
 cC:p.ag.length≤5
 cb:p.ae.length≤5
 dH:p.ai.length≤5
 L8:aw (·.id) (fun x=>cH x && fF p.next x && dG p x) 0 p.L8=true
 aj:aw (·.id) gw 0 p.aj=true
 L9:aw (·.id) ey 0 p.L9=true
 ag:aw (·.id) cU 0 p.ag=true
 ae:aw (·.id) ct 0 p.ae=true
 ai:aw (·.id) dj 0 p.ai=true
 apart:rb p.L8
def bK (p:aE):Bool:=cv p.id 1 6 && cv p.next 1 1000000000 && decide (p.L8.length≤6) && decide (p.aj.length≤5) && decide (p.L9.length≤5) && decide (p.ag.length≤5) && decide (p.ae.length≤5) && decide (p.ai.length≤5) &&
 aw (·.id) (fun x=>cH x && fF p.next x && dG p x) 0 p.L8 && aw (·.id) gw 0 p.aj && aw (·.id) ey 0 p.L9 && aw (·.id) cU 0 p.ag && aw (·.id) ct 0 p.ae && aw (·.id) dj 0 p.ai && decide ((p.L8.map (·.RU)).Pairwise (fun a b=> ¬ (a=b∧0 < b)))
theorem ch (p:aE):bK p=true↔aQ p:=by
 simp only [bK,J7,decide_eq_true_eq];constructor
 ·rintro ⟨⟨⟨⟨⟨⟨⟨⟨⟨⟨⟨⟨⟨⟨h1,h2⟩,h3⟩,h4⟩,h5⟩,h6⟩,h7⟩,h8⟩,h9⟩,h10⟩,h11⟩,h12⟩,h13⟩,h14⟩,h15⟩
  exact ⟨h1,h2,h3,h4,h5,h6,h7,h8,h9,h10,h11,h12,h13,h14,h15⟩
 ·intro h
  exact ⟨⟨⟨⟨⟨⟨⟨⟨⟨⟨⟨⟨⟨⟨h.id,h.next⟩,h.dl⟩,h.fx⟩,h.cD⟩,h.cC⟩,h.cb⟩,h.dH⟩,h.L8⟩,h.aj⟩,h.L9⟩,h.ag⟩,h.ae⟩,h.ai⟩,h.apart⟩
theorem fP {p:aE} (h:aQ p):bK p=true:=(ch p).2 h
theorem dL {p:aE} (h: ¬ aQ p):bK p=false:=by
 cases hb:bK p with
 | false=>rfl
 | true=>exact absurd ((ch p).1 hb) h
def Hu (l:List aD):List Int:=(l.filter (fun x=> !decide (x.Md=0))).map (·.RU)
def nQ (next:Int) (l:List aD):Prop:=(∀ x∈l,¬ x.Md=0→1≤x.RU∧x.RU < next)∧(Hu l).Nodup
structure OpenR (p:aE):Prop where
 id:cv p.id 1 6=true
 next:cv p.next 1 1000000000=true
 dl:p.L8.length≤6
 fx:p.aj.length≤5
 cD:p.L9.length≤5
 cC:p.ag.length≤5
 cb:p.ae.length≤5
 dH:p.ai.length≤5
 L8:aw (·.id) cH 0 p.L8=true
 aj:aw (·.id) gw 0 p.aj=true
 L9:aw (·.id) ey 0 p.L9=true
 ag:aw (·.id) cU 0 p.ag=true
 ae:aw (·.id) ct 0 p.ae=true
 ai:aw (·.id) dj 0 p.ai=true
 turns:nQ p.next p.L8
 waits:p.L8.all (dG p)=true
theorem bz {n lo hi:Int} :cv n lo hi=true↔lo≤n∧n≤hi:=by simp [cv]
theorem kx {x:aD} (h:cH x=true) (h0:x.Md=0):x.RU=0:=by
 simp only [cH,J7] at h
 have:=h.2
 simp only [bO,h0,if_true,J7,decide_eq_true_eq] at this;exact this.1.2
theorem tW {next:Int} {l:List aD} (hb: ∀ x∈l,cH x=true) (h:nQ next l):rb l:=by
 induction l with
 | nil=>exact List.Pairwise.nil
 | cons x r ih=>
  have hr:nQ next r:=⟨fun y hy=>h.1 y Zdr,by
   have:=h.2
   unfold Hu at this ⊢;rw [LN] at this
   split at this
   ·exact (Lp.1 this).2
   ·exact this⟩
  refine LM.2 ⟨fun b wU hab=> ?_,ih (fun y hy=>hb y Zdr) hr⟩;obtain ⟨y,hy,rfl⟩:=Lr.1 wU;have e1:x.RU=y.RU:=hab.1;have e2:0 < y.RU:=hab.2;have hxs: ¬ x.Md=0:=fun e=>by
   have:=kx (hb x (by simp)) e
   omega
  have hys: ¬ y.Md=0:=fun e=>by
   have:=kx (hb y Zdr) e
   omega
  have:=h.2
  unfold Hu at this;rw [LN,if_pos (by simp [hxs]),Lt,Lp] at this;exact this.1 (Lr.2 ⟨y,L2.2 ⟨hy,by simp [hys]⟩,hab.1.symm⟩)
theorem uf {next:Int} {l:List aD} (ht: ∀ x∈l,fF next x=true) (h:rb l):nQ next l:=by
 have h1: ∀ x∈l,¬ x.Md=0→1≤x.RU∧x.RU < next:=fun x hx h0=>by
  have:=ht x hx
  simp only [fF,h0,decide_false,Qg] at this
  have:=bz.1 this
  omega
 refine ⟨h1,?_⟩
 induction l with
 | nil=>exact List.nodup_nil
 | cons x r ih=>
  obtain ⟨h2,h3⟩:=LM.1 h;have ih':=ih (fun y hy=>ht y Zdr) h3 (fun y hy=>h1 y Zdr);unfold Hu at ih' ⊢;rw [LN]
  split
  ·rename_i hx
   have hx0: ¬ x.Md=0:=by simpa using hx
   rw [Lt,Lp];refine ⟨fun hm=> ?_,ih'⟩;obtain ⟨y,hy,e⟩:=Lr.1 hm;have hy':=(L2.1 hy).1
   have:=h1 x (by simp) hx0
   exact h2 y.RU (Lr.2 ⟨y,hy',rfl⟩) ⟨e.symm,by omega⟩
  ·exact ih'
theorem i5 (p:aE):OpenR p↔aQ p:=by
 constructor
 ·intro h
  refine ⟨h.id,h.next,h.dl,h.fx,h.cD,h.cC,h.cb,h.dH,?_,h.aj,h.L9,h.ag,h.ae,h.ai,tW (fun x hx=>(cK h.L8 x hx).2) h.turns⟩;rw [nC,nC,h.L8,h.waits,Bool.true_and,Bool.and_true,PZ];intro x hx;by_cases h0:x.Md=0
  ·simp [fF,h0]
  ·have:=h.turns.1 x hx h0
   simp only [fF,h0,decide_false,Qg];exact bz.2 (by omega)
 ·intro h
  have hp:=h.L8;rw [nC,nC,J7,J7] at hp;exact ⟨h.id,h.next,h.dl,h.fx,h.cD,h.cC,h.cb,h.dH,hp.1.1,h.aj,h.L9,h.ag,h.ae,h.ai,uf (fun x hx=>PZ.1 hp.1.2 x hx) h.apart,hp.2⟩
theorem vz (l:List dN) {j:Nat} (hj:j < l.length * 4):(fk.flat l)[j]? =o_ (xe (Cd l) (Cg l) (Ea l) (Ce l) j):=by
 have hi:j / 4 < l.length:=by omega
 have hx:l[j / 4]? =o_ l[j / 4] :=Kz hi;have hr:j % 4 < 4:=by omega
 have:=fk.jw hx (j:=j % 4) hr
 have e:j / 4 * fk.n+j % 4=j:=by show j / 4 * 4+j % 4=j; omega
 rw [e] at this;rw [this];have h4:j % 4=0∨j % 4=1∨j % 4=2∨j % 4=3:=by omega
 rcases h4 with h | h | h | h <;> rw [h] <;> simp [fk,CC,xe,h,Cd,Cg,Ea,Ce,hx]
theorem wa {w:w_} {a:Option d_} {l:List dN} (h:Row w a (fk.flat l)) (hl:0 < l.length): ∃ g,a=o_ ⟨g,0,n_⟩∧y9 w g l:=by
 obtain ⟨g,e,hc⟩:=h 0 _ (vz l (j:=0) (by omega));refine ⟨g,e,Le hc,fun j hj=> ?_⟩;obtain ⟨g',e',hc'⟩:=h j _ (vz l hj);rw [e] at e';cases e';exact hc'
theorem Jm {w:w_} {a:Option d_} {l:List dN} (h:Row w a (fk.flat l)) {i:Nat} {x:dN} (hx:l[i]? =o_ x): ∃ g,a=o_ ⟨g,0,n_⟩∧w.cell? ⟨g,i * 4,n_⟩=o_ (i_ j_ x.1)∧w.cell? ⟨g,i * 4+1,n_⟩=o_ (i_ j_ x.2.1)∧w.cell? ⟨g,i * 4+2,n_⟩=o_ (i_ j_ x.2.2.1)∧w.cell? ⟨g,i * 4+3,n_⟩=o_ (t_ x.2.2.2):=by
 have h':fk.bU w a l:=⟨h,fun _ _ r hr=>by cases hr⟩
 obtain ⟨g,e,hc⟩:=h'.at hx;exact ⟨g,e,hc 0 _ rfl,hc 1 _ rfl,hc 2 _ rfl,hc 3 _ rfl⟩
theorem xd {l:List dN} (hs: ∀ o∈l,o.2.2.2.size≤1048576): ∀ i,i < l.length→(Ce l i).size≤1048576:=fun i hi=>by
 simp only [Ce,Kz hi,Ka];exact hs _ (PJ hi)
structure ao.dX (x:ao):Prop where
 prog:x.prog.length≤1048576
 ops: ∀ o∈x.prog,o.2.2.2.size≤1048576
 held:x.held.size≤1048576
 got:x.got.size≤1048576
theorem xf:jm [] =false:=iS (fun h=>by have:=h.1; simp at this)
theorem tz (a:Option d_) (cap:Nat) (w:w_):
  k_ J3 100 #[s_ a 0 cap] w fun e w'=>e=r_ (b_ false)∧B_ w.heap.size w w':=by
 go_enter func100,ntmps100
 go_wp2
 go_loop [3] (fun i=>i=i_ j_ 0) (fun _=>0)
 case atStart=>rfl
 case round=>
  subst hrel;go_wp2;go_ret;exact ⟨rfl,Kp _ _⟩
theorem wQ (a:Option d_) (l:List dN) (cap:Nat) (w:w_) (hl:l.length≤1048576) (hs: ∀ o∈l,o.2.2.2.size≤1048576) (h:Row w a (fk.flat l)):
  k_ J3 100 #[s_ a l.length cap] w fun e w'=>e=r_ (b_ (jm l))∧B_ w.heap.size w w':=by
 cases l with
 | nil=>rw [xf]; exact tz a cap w
 | cons x r=>
  obtain ⟨g,rfl,hr⟩:=wa h (by simp);exact vv g _ cap _ _ _ _ w hl (xd hs) hr
theorem tu (a:Option d_) (cap:Nat) (w:w_):
  k_ J3 261 #[s_ a 0 cap] w fun e w'=>e=r_ (b_ false)∧B_ w.heap.size w w':=by
 go_enter func261,ntmps261
 go_wp2;go_ret;exact ⟨rfl,Kp _ _⟩
theorem wI (a:Option d_) (l:List dN) (cap:Nat) (w:w_) (hl:l.length≤1048576) (hs: ∀ o∈l,o.2.2.2.size≤1048576) (h:Row w a (fk.flat l)):
  k_ J3 261 #[s_ a l.length cap] w fun e w'=>e=r_ (b_ (jm l))∧B_ w.heap.size w w':=by
 cases l with
 | nil=>rw [xf]; exact tu a cap w
 | cons x r=>
  obtain ⟨g,rfl,hr⟩:=wa h (by simp);exact tV g _ cap _ _ _ _ w hl (xd hs) hr
end
def dF (a b:aD):Bool:=if a.RX=b.RX then decide (a.RU < b.RU) else decide (b.RX < a.RX)
def iy (r:Option aD) (x:aD):Option aD:=match r with
 | none=>o_ x
 | some b=>if dF x b then o_ x else o_ b
def jo (l:List aD):Option aD:=l.foldl iy n_
theorem ny (l:List aD) (x:aD):jo (l ++ [x])=iy (jo l) x:=by simp [jo]
theorem zp {r:Option aD} {x y:aD} (h:iy r x=o_ y):y=x∨r=o_ y:=by
 unfold iy at h
 exact ZbM
theorem pN (r:Option aD) (x:aD): ∃ y,iy r x=o_ y:=by
 unfold iy
 split
 ·exact ⟨_,rfl⟩
 ·split <;> exact ⟨_,rfl⟩
def dO (f:aD→Bool) (l:List aD) (k:Nat) (i:Int):Prop:=match jo ((l.take k).filter f) with
 | none=>i= -1
 | some x=> ∃ n:Nat,i=n∧n < k∧l[n]? =o_ x
section
variable {f:aD→Bool} {l:List aD} {k:Nat} {i:Int} {x:aD}
theorem dO.start (f:aD→Bool) (l:List aD):dO f l 0 (-1):=by simp [dO,jo]
theorem rS (hx:l[k]? =o_ x):(l.take (k+1)).filter f=(l.take k).filter f ++ (if f x then [x] else []):=by
 rw [cj hx,List.filter_append];by_cases h:f x=true <;> simp [h]
theorem dO.skip (h:dO f l k i) (hx:l[k]? =o_ x) (hf:f x=false):dO f l (k+1) i:=by
 unfold dO at h ⊢;rw [rS hx,hf];simp only [J5,if_false,List.append_nil]
 exact ZbY
theorem dO.first (h:dO f l k i) (hi:i < 0) (hx:l[k]? =o_ x) (hf:f x=true):dO f l (k+1) k:=by
 unfold dO at h ⊢;rw [rS hx,hf];simp only [if_true];rw [ny]
 exact ZbK
theorem dO.got (h:dO f l k i) (hi: ¬ i < 0): ∃ (n:Nat) (y:aD),i=n∧n < k∧l[n]? =o_ y∧jo ((l.take k).filter f)=o_ y:=by
 unfold dO at h
 exact ZbQ
theorem dO.next {n:Nat} {y:aD} (hn:n < k) (hy:l[n]? =o_ y) (he:jo ((l.take k).filter f)=o_ y) (hx:l[k]? =o_ x) (hf:f x=true):dO f l (k+1) (if dF x y then (k:Int) else (n:Int)):=by
 unfold dO;rw [rS hx,hf];simp only [if_true];rw [ny,he];simp only [iy];by_cases ha:dF x y=true
 ·simp only [ha,if_true]
  exact ⟨k,rfl,by omega,hx⟩
 ·simp only [ha,J5,if_false]
  exact ⟨n,rfl,by omega,hy⟩
end
section
open Go.RowKit Go.Maps
theorem Ht {B:Nat} {w w':w_} (h:B_ B w.drew w'):B_ B w w':=⟨h.os,h.tape,h.output,h.size,h.block⟩
structure fT (w:w_) (a:Option d_) (l:List ByteArray):Prop where
 len:l.length≤1048576
 short: ∀ s∈l,s.size≤1048576
 row:Row w a (bT.flat l)
theorem fT.below {w w':w_} {a:Option d_} {l:List ByteArray} (h:fT w a l) (hb:B_ w.heap.size w w'):fT w' a l:=⟨h.len,h.short,h.row.below hb⟩
theorem oy (a:Option d_) (l:List ByteArray) (cap:Nat) (Me:Int) (w:w_) (h:fT w a l):
  k_ J3 282 #[s_ a l.length cap,i_ j_ Me] w fun e w'=>e=r_ (b_ (cv Me 1 5 && dJ l Me))∧w'=w:=by
 have H:Hid (fT w a l):=h;have hl:=h.len;clear h;by_cases h1:Me < 1
 ·go_enter func282,ntmps282
  go_wp2;go_ret;exact ⟨al (by rw [mA h1]; rfl),rfl⟩
 by_cases h2:5 < Me
 ·go_enter func282,ntmps282
  go_wp2;go_ret;exact ⟨al (by rw [kR h2]; rfl),rfl⟩
 have HIn:Hid (cv Me 1 5=true):=eB (by omega) (by omega);by_cases h3:Me < (l.length:Int)
 ·have HT:Hid (dJ l Me=false):=by show dJ l Me=false; simp [dJ]; intro _; omega
  have e1:wrap64 (l.length:Int)=l.length:=by unfold wrap64; omega
  go_enter func282,ntmps282
  go_wp2;go_ret;exact ⟨al (by rw [HT.I,PP]),rfl⟩
 have HL:Hid (decide ((l.length:Int)≤Me)=true):=decide_eq_true (by omega);have e1:wrap64 (l.length:Int)=l.length:=by unfold wrap64; omega
 go_enter func282,ntmps282
 go_wp2_with fail
 go_loop [21] (fun i=> ∃ k:Nat,k≤l.length∧i=i_ j_ k∧Hid ((l.take k).all bw=true)) (fun i=>l.length - (intOf i).toNat)
 case atStart=>exact ⟨0,Ky _,rfl,(by simp:(l.take 0).all bw=true)⟩
 case round=>
  obtain ⟨k,hk,rfl,HA⟩:=hrel;by_cases hlt:k < l.length
  ·have i0:(0:Int)≤(k:Int):=by omega
   have i1:(k:Int) < (l.length:Int):=by omega
   obtain ⟨x,hx⟩: ∃ x,l[k]? =o_ x:=⟨_,Kz hlt⟩
   have HX:Hid (l[k]? =o_ x):=hx;obtain ⟨g,rfl,c0⟩:=zl H.I.row hx;have hxs:=H.I.short x (KA hx);clear hx;go_wp2_with fail;refine (iM x w hxs).mono ?_;rintro e w' ⟨rfl,rfl⟩;cases hp:bw x with
   | true=>
    exact Za8
   | false=>
    have HP:Hid (bw x=false):=hp;clear hp;go_wp2;go_ret;exact ⟨al (by rw [xL HX.I HP.I,PP]),rfl⟩
  ·have i1: ¬ (k:Int) < (l.length:Int):=by omega
   have HT:Hid (l.all bw=true):=by have:=HA.I; rwa [KF (by omega)] at this
   go_wp2;go_ret;exact ⟨al (by rw [HIn.I,dJ,HT.I,HL.I]; rfl),rfl⟩
theorem zS {id:Int} {I Mf:Bool} {max:Int} {Ma:List ByteArray} (h:(cv max 1 5 && dJ Ma max)=false):dj ⟨id,I,Mf,max,Ma⟩=false:=by
 simp only [dj];cases h1:cv max 1 5 <;> cases h2:dJ Ma max <;> simp_all
theorem Cu {id:Int} {I:Bool} {max:Int} {Ma:List ByteArray} (h:(cv max 1 5 && dJ Ma max)=true) (q:Bool):dj ⟨id,I,q,max,Ma⟩=(q || decide (max=1)):=by
 simp only [J7] at h;simp [dj,h.1,h.2]
def iI (Me:Int) (m:df) (id:Int) (ok:Bool):Bool:= !(cz m id).isSome && decide ((m.length:Int) < Me) && cv id 1 1000 && ok
def dD (w:w_) (b:Nat) (m:df) (ok:Bool) (id:Int) (cs:Array v_) (T:T_) (e:Ending) (w':w_):Prop:=
 e=r_ (b_ ok)∧(ok=false→B_ w.heap.size w w')∧(ok=true→ ∃ g,w.heap.size≤g∧w'.heap[g]? =o_ (c_ cs T)∧cF w' b (oK (id,g) m)∧w.grownBy w' (o_ b))
theorem ki {w w':w_} {b:Nat} {m:df} {ok:Bool} {id:Int} {cs:Array v_} {T:T_} (h:ok=false) (hb:B_ w.heap.size w w'):dD w b m ok id cs T (r_ (b_ false)) w':=by
 subst h;exact ⟨rfl,fun _=>hb,fun h=>by cases h⟩
structure fe (w W:w_) (S X b:Nat) (m:df) (Me:Int) (cs:Array v_) (T TS:T_):Prop where
 sh:W.heap[S]? =o_ (c_ #[i_ j_ Me,.map (o_ b)] TS)
 bx:W.heap[X]? =o_ (c_ cs T)
 mp:cF W b m
 cd:B_ w.heap.size w W
section
variable {w W W':w_} {S X b:Nat} {m:df} {Me:Int} {cs:Array v_} {T TS:T_}
theorem fe.below (h:fe w W S X b m Me cs T TS) (hb:B_ W.heap.size W W'):fe w W' S X b m Me cs T TS:=
 ⟨(hb.block _ (J2.1 h.sh).1).trans h.sh,(hb.block _ (J2.1 h.bx).1).trans h.bx,h.mp.below hb,h.cd.trans (hb.mono h.cd.size)⟩
theorem fe.start (w:w_) {b:Nat} {m:df} (h:cF w b m) (Me:Int) (cs:Array v_) (T TS:T_):fe w ((w.alloc (c_ #[i_ j_ Me,.map (o_ b)] TS)).alloc (c_ cs T)) w.heap.size (w.heap.size+1) b m Me cs T TS:=by
 have b1:B_ w.heap.size w (w.alloc (c_ #[i_ j_ Me,.map (o_ b)] TS)):=(Kp _ _).alloc (Ki _) _;have b2:B_ w.heap.size w ((w.alloc (c_ #[i_ j_ Me,.map (o_ b)] TS)).alloc (c_ cs T)):=b1.alloc b1.size _;exact ⟨(PU (by simp)).trans (Kj _ _),heap_alloc2_new _ _ _,h.below b2,b2⟩
theorem fe.drew (h:fe w W S X b m Me cs T TS):fe w W.drew S X b m Me cs T TS:=⟨h.sh,h.bx,h.mp.same rfl,h.cd.drew⟩
theorem fe.cells (h:fe w W S X b m Me cs T TS):W.cell? ⟨S,0,n_⟩=o_ (i_ j_ Me)∧W.cell? ⟨S,1,n_⟩=o_ (.map (o_ b)):=by
 have:=h.sh
 simp [World.cell?,this]
theorem fe.put (h:fe w W S X b m Me cs T TS) (hX:w.heap.size≤X) {t e:T_} (ht:Tryz.prog.underlying t=o_ (.map 2 e)) {id:Int} (hid:(Lit.int j_ id).wf=true) (hn:cz m id=n_) (hm:m.length≤1048576) (hXb: ¬ X=b):
  ∃ w',(Instr.mapUpdate t (.map (o_ b)) (i_ j_ id) (p_ (o_ ⟨X,0,n_⟩))).run J3 W= .ok () w'∧dD w b m true id cs T (r_ (b_ true)) w':=by
 obtain ⟨w',hrun,hmp,htn⟩:=h.mp.put ht hid X hn hm;refine ⟨w',hrun,⟨rfl,(fun h=>by cases h),fun _=>⟨X,hX,?_,hmp,?_⟩⟩⟩
 ·have:=htn.grown
  exact (this.block X (J2.1 h.bx).1 (fun e=>hXb (KC e))).trans h.bx
 ·have hg:=htn.grown
  exact ⟨hg.os.trans h.cd.os,hg.tape.trans h.cd.tape,hg.output.trans h.cd.output,Nat.le_trans h.cd.size hg.size,fun k hk hne=>(hg.block k (Kn hk h.cd.size) hne).trans (h.cd.block k hk)⟩
end
end
end Go.Proofs.YtnlbiglljiopmaaGreatDoor
