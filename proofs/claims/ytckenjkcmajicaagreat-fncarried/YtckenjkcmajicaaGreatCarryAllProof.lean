/- Proved: at every code FnCarried (the law FnCarried returns true). No condition beside the statement's own. (Made by mkdlproof.py.) -/
import Derived.Test.YtckenjkcmajicaaGreatOwnG28
import Derived.Test.YtckenjkcmajicaaGreatOwnG29
import Derived.Test.YtckenjkcmajicaaGreatOwnG30
set_option linter.all false
set_option maxRecDepth 100000
set_option maxHeartbeats 8000000
open Go.Proofs.Tryz renaming prog->J3

open Go.RowKit renaming Hid->da
namespace Go.Proofs.YtckenjkcmajicaaGreat
open Go.ChangeShapes Go.WideShapes Go.ChangeAt Go.RowKit
theorem aqS (os:Os) (started:os.Started) (H:Type) (enc:TypeId × Value->H):
  ReturnsInHanded {} Tryz.checked os 3 .any (Rows.fnCarriedSpec.pre6 enc J3 Tryz.f3 Rows.fnCarriedRow.domain false) (Rows.fnCarriedSpec.post enc J3 Tryz.f3 false true false false):=by
 refine returnsInHanded_of_change (C:=Tryz.checked) Tryz.own started ZbG Tryz.func3
  (ChangeSpec.witness6 (enc:=enc) (C:=Tryz.checked) false ⟨#[],#[.slice none 0 0],[]⟩ 8 ZbG ZbG ZbG ZbG) ?_
 intro W bj args ds gs before Jk hW hcnd _;have hval: ∀ (j:Nat) t v,Tryz.f3.params[j]? =some t->args[j]? =some v->Value.okWide J3 W .any bj t v:=Jk;have hW':=hW;obtain ⟨p,q,hA0,hV,rfl,hfz,hnd⟩:=hW;have hA:DataW.TrodAll enc J3 W 0 (fun _=>true) true Tryz.f3.params.toList args.toList ds p:=hA0;rw [Tryz.params3] at hA hval;obtain ⟨v0,vs0,d0,ds0,p0,q0,hargs,rfl,rfl,h0,r0⟩:=trodAll_cons hA;obtain ⟨rfl,rfl,rfl⟩:=trodAll_nil r0;obtain rfl:args= #[v0] :=by cases args; simp_all
 obtain ⟨rfl,rfl⟩:=trodVars_none hV;obtain ⟨a0,ale,cap0,rfl⟩:=okWide_slice Tryz.underlying22 (hval 0 22 v0 rfl rfl);have k0:=h0;have lt0: ∀ x∈p0,x.block < W.heap.size:=by obtain ⟨m,hm⟩:=k0; exact DataW.trod_lt m _ _ _ hm
 have w0:Bytes W a0 ale:=by
  obtain ⟨fuel,hf⟩:=h0;rcases open_ints Tryz.underlying22 Tryz.underlying5 ZbG hf with ⟨hcs,_⟩ | ⟨x,l,c,zs,hcs,_,hl,hm,hz,_,hcell,hwz⟩
  .simp [Value.cells] at hcs
   exact .inl hcs.2.1
  .simp [Value.cells] at hcs
   obtain ⟨rfl,rfl,rfl⟩:=hcs;exact GL hl (by simpa using hz) hcell hwz
 clear hA0 Jk;refine (arI a0 ale cap0 W (fun _=>w0)).mono fun e W' ⟨he,cd⟩=> ?_
 subst he;exact ⟨_,rfl,_,_,_,[],_,[],hW',trodAll_mk1 (shut_bool Tryz.underlying4 _),(trodAll_cons_mk (Below.trod Tryz.laidOut ZbG (of_decide_eq_true ZbG) k0 cd lt0) trodAll_mk0),rfl,cd.frame _,fun h=>ZcF⟩
theorem carryAll_holds:Rows.FnCarriedSaid:=
 OpenClaim.holds_of_wide 3 Tryz.f3 rfl rfl rfl rfl rfl rfl rfl ⟨rfl,rfl,rfl,rfl,rfl⟩ rfl rfl rfl rfl rfl aqH Tryz.func3 aqM aqD aqC
  (fun os started H enc _=>aqS os started H enc)
#print axioms carryAll_holds
end Go.Proofs.YtckenjkcmajicaaGreat
