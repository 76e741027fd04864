/- What the proof leans on, part 47. -/
import Derived.Test.YtkbcplnlehdjfaaGreatOwnP2
import Derived.Test.YtkbcplnlehdjfaaGreatRows
import Derived.ShutString
set_option maxRecDepth 100000
set_option maxHeartbeats 8000000
open Bool renaming and_eq_true->J7

namespace Go.Proofs.YtkbcplnlehdjfaaGreat
open Go.ChangeShapes Go.WideShapes Go.ChangeAt Go.RowKit
theorem Tryz.own:ownKnob Tryz.prog.godebug=none:=by kernel_rfl
theorem Tryz.laidOut:laidOutB Tryz.prog=true:=by kernel_rfl
theorem GL {w:World} {x:Addr} {len cap:Nat} {zs:List Int} (hl:len≤cap) (hz:zs.length=cap) (hcell: ∀ i,i < zs.length→w.cell? (x.add i)=some (.int .u8 (zs.getD i 0))) (hwz: ∀ n∈zs,(Lit.int .u8 n).wf=true):Bytes w (some x) len:=by
 rcases Nat.eq_zero_or_pos len with h0 | h0
 ·exact .inl h0
 obtain ⟨b,off,spot⟩:=x;have hc:=hcell 0 (by omega);have hspot:spot=none:=by simpa [Addr.add] using World.cell?_spot hc
 subst hspot;refine .inr ⟨b,off,rfl,fun i hi=> ?_⟩;have h1:=hcell i (by omega);have hadd:(⟨b,off,none⟩:Addr).add i=⟨b,off+i,none⟩:=by unfold Addr.add; split <;> simp_all
 rw [hadd] at h1;have hm:zs.getD i 0∈zs:=by
  rw [List.getD_eq_getElem?_getD,List.getElem?_eq_getElem (by omega:i < zs.length)];exact List.getElem_mem _
 have h2:=hwz _ hm;refine ⟨_,h1,?_,?_⟩
 ·simp only [Lit.wf,J7,decide_eq_true_eq] at h2; exact h2.1
 ·simp only [Lit.wf,J7,decide_eq_true_eq] at h2; exact h2.2
end Go.Proofs.YtkbcplnlehdjfaaGreat
