/- What the proof leans on, part 11: CopyB, AlSem, AlEvent, AlBoard, AlBuffer, AlPort. -/
import Derived.Test.YtkbcplnlehdjfaaGreatOwnB7
import Derived.Test.YtkbcplnlehdjfaaGreatOwnB8
import Derived.Deep.AppendSrc
set_option maxRecDepth 100000
set_option maxHeartbeats 8000000

namespace Go.Proofs.YtkbcplnlehdjfaaGreat
open Go.RowKit
theorem qZ (g j:Nat):(⟨g,0,none⟩:Addr).add j=⟨g,j,none⟩:=by unfold Addr.add; split <;> simp_all
theorem sZ {P:Program} (w:World) (t ty e:TypeId) (i:TypeInfo) (z:Value) (size bytes:Nat) (ht:P.underlying t=some (.slice e)) (hi:P.info? e=some i) (hz:i.zero=some z)
  (hsize:i.size=size) (hby:i.bytes=bytes) (hzs:z.cells.size=size) (hsz:0 < size) (a:Option Addr) (n cap:Nat) (xs:List Value) (h:Row w a xs) (hl:xs.length=n * size) (h1: ∀ u∈xs,u.oneCell'=true)
  (h63:n≤1048576) (hb:bytes≤1000):
  ∃ a' cap' w',(Builtin.append_ #[t,t] ty #[.slice none 0 0,.slice a n cap]).run P w= .ok (.slice a' n cap') w'∧w'.ownsRow w.heap.size e size (.slice a' n cap') n xs∧w.grownBy w' none:=by
 cases a with
 | none=>
  have hx:xs= [] :=by
   cases xs with
   | nil=>rfl
   | cons u r=>
    obtain ⟨g,e',_⟩:=h 0 u rfl
    cases e'
  subst hx
  have hn:n=0:=by
   cases n with
   | zero=>rfl
   | succ n=>simp only [List.length_nil,Nat.succ_mul] at hl; omega
  subst hn
  refine ⟨none,0,w,?_,World.ownsRow_nil _ _ _ _,⟨rfl,rfl,rfl,Nat.le_refl _,fun _ _ _=>rfl⟩⟩
  simp [Builtin.append_,run_underlying ht,sizeOf,typeInfo,hi,Builtin.lenOf,Builtin.firstCells]
 | some ad=>
  have hnews: ∀ j u,xs[j]? =some u→w.cell? (ad.add j)=some u:=fun j u hu=>by
   obtain ⟨g,e',hc⟩:=h j u hu
   cases e'
   rw [qZ]
   exact hc
  obtain ⟨v',w',hr,ho,hg,-,-⟩:=run_append_own_at (P:=P) w w.heap.size t ty e i z size bytes ht hi hz hsize hby hzs hsz (.slice none 0 0) 0 [] (World.ownsRow_nil _ _ _ _) ad n cap xs hl hnews h1 (by unfold maxLen; omega) (by rw [Nat.zero_add]; have:=Nat.mul_le_mul h63 hb; omega) (Nat.le_refl _)
  simp only [Nat.zero_add,List.nil_append] at ho
  obtain ⟨a',cap',rfl,-⟩:=cr ho
  exact ⟨a',cap',w',hr,ho,hg⟩
end Go.Proofs.YtkbcplnlehdjfaaGreat
namespace Go.Proofs.YtkbcplnlehdjfaaGreat
open Go.RowKit Go.Maps Go.Sort Go.Shelf





end Go.Proofs.YtkbcplnlehdjfaaGreat
