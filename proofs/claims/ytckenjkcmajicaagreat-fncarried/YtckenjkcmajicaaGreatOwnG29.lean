/- What the proof leans on, part 29. -/
import Derived.Test.YtckenjkcmajicaaGreatOwnG5
import Derived.Test.YtckenjkcmajicaaGreatRows
import Derived.ShutString
set_option linter.all false
set_option maxRecDepth 100000
set_option maxHeartbeats 8000000
open Go renaming World->w_,Addr->d_
open Go.Value renaming int->i_
open Option renaming some->o_,none->n_

open Go.RowKit renaming Hid->da
namespace Go.Proofs.YtckenjkcmajicaaGreat
open Go.ChangeShapes Go.WideShapes Go.ChangeAt Go.RowKit
theorem Tryz.own:ownKnob Tryz.prog.godebug=n_:=ZbG
theorem Tryz.laidOut:laidOutB Tryz.prog=true:=ZbG
theorem GL {w:w_}{x:d_}{len cap:Nat}{zs:List Int}(hl:len<=cap)(hz:zs.length=cap)(hcell:∀i,i<zs.length->w.cell? (x.add i)=o_ (i_ .u8 (zs.getD i 0)))(hwz:∀n∈zs,(Lit.int .u8 n).wf=true):Bytes w (o_ x) len:=by
 rcases Nat.eq_zero_or_pos len with h0|h0
 .exact .inl h0
 obtain⟨b,off,spot⟩:=x;have hc:=hcell 0 zw;have hspot:spot=n_:=by simpa[Addr.add]using World.cell?_spot hc
 subst hspot;refine .inr ⟨b,off,rfl,λi hi=>?_⟩;have h1:=hcell i zw;have hadd:(⟨b,off,n_⟩:d_).add i=⟨b,off+i,n_⟩:=Zd8
 rw[hadd]at h1;have hm:zs.getD i 0∈zs:=by
  rw[List.getD_eq_getElem?_getD,Kz (by omega:i<zs.length)];exact PJ _
 have h2:=hwz _ hm;refine⟨_,h1,?_,?_⟩
 .simp only[Lit.wf,J7,decide_eq_true_eq]at h2;exact h2.1
 .simp only[Lit.wf,J7,decide_eq_true_eq]at h2;exact h2.2
end Go.Proofs.YtckenjkcmajicaaGreat
