/- Proved: at every code of a drawn partition, a time and a number, ticks in two pieces are the same ticks (the law FnTickParts returns true), and nothing that was there is changed. Conditions: the statement's own: the three errors and errors.errorType are laid as the programme's text says (the card ties them). (Made by mkcard.py.) -/
import Derived.Test.YtfncpmaefninjaaGreatDoorOwnQ27
import Derived.Test.YtfncpmaefninjaaGreatDoorOwnQ28
import Derived.Test.YtfncpmaefninjaaGreatDoorOwnQ29
import Derived.Test.YtfncpmaefninjaaGreatDoorTie
import Derived.Test.YtfncpmaefninjaaGreatDoorCards
import Derived.OpenVars
set_option linter.all false
set_option maxRecDepth 100000
set_option maxHeartbeats 8000000
open Go.Proofs.Tryz renaming prog->J3

open Go.RowKit renaming Hid->bN
namespace Go.Proofs.YtfncpmaefninjaaGreatDoor
open Go.ChangeShapes Go.WideShapes Go.ChangeAt Go.RowKit
theorem aie (os:Os) (args:Array Value):laidMetH J3 Rows.fnTickPartsRow.laid ((World.doorLaid J3 600 os).forCall (fun _ _=>0) ⟨#[],args,[]⟩).memory:=
 laidMetH_of_parts3 (fuel:=8) (laidMet_of_run' 8 Zcq Zcq) Zcq Zcq
theorem ajR {H:Type} {enc:TypeId × Value->H} {P:Program} {w:World} {spare:Nat->Bool} {a b c:String} {gs:List (DataW H)} {ps:List MemPlace} (h:DataW.TrodVars enc P w spare [a,b,c] gs ps): ∃ x y z,gs= [x,y,z] :=by
 cases gs with
 | nil=>simp [DataW.TrodVars] at h
 | cons d ds=>
  obtain ⟨_,_,_,_,_,_,_,_,_,_,hs,_⟩:=h;obtain ⟨_,_,_,_,d0,_,_,_,_,_,d1,_,rfl,_⟩:=trodVars_two hs;exact ⟨d,d0,d1,rfl⟩
theorem amO (os:Os) (started:os.Started) (H:Type) (enc:TypeId × Value->H):
  ReturnsInHanded {} Tryz.checked os 6 .any (fun w args=>(Rows.fnTickPartsSpec.pre enc J3 Tryz.f6 [] false w args/\laidMetH J3 Rows.fnTickPartsRow.laid w)/\sizedMet enc J3 Tryz.f6 (OpenSpec.ofChange Rows.fnTickPartsSpec) false w args)
   (Rows.fnTickPartsSpec.post enc J3 Tryz.f6 false true false false):=by
 refine returnsInHanded_of_change_and (C:=Tryz.checked) (X:=fun w _=>laidMetH J3 Rows.fnTickPartsRow.laid w) (fun _ _ _ hh h=>h.of_heap hh) Tryz.own started Zcq Tryz.func6
  (ChangeSpec.witness_shaped (enc:=enc) (C:=Tryz.checked) (os:=os) (X:=fun w _=>laidMetH J3 Rows.fnTickPartsRow.laid w) false (World.doorLaid J3 600 os) #[.slice none 0 0] 8 rfl (World.shaped_of_RefB Zcq Zcq) Zcq Zcq Zcq (aie os _)) ?_
 intro W bj args ds gs before Jk hW _ _ hL _;have hval: ∀ (j:Nat) t v,Tryz.f6.params[j]? =some t->args[j]? =some v->Value.okWide J3 W .any bj t v:=Jk;have hW':=hW;obtain ⟨p,q,hA0,hV,rfl,hfz,hnd⟩:=hW;have hA:DataW.TrodAll enc J3 W 0 (fun _=>true) true Tryz.f6.params.toList args.toList ds p:=hA0;rw [Tryz.params6] at hA hval;obtain ⟨v0,vs0,d0,ds0,p0,q0,hargs,rfl,rfl,h0,r0⟩:=trodAll_cons hA;obtain ⟨rfl,rfl,rfl⟩:=trodAll_nil r0;obtain rfl:args= #[v0] :=by cases args; simp_all
 obtain ⟨x1,x2,x3,rfl⟩:=ajR hV;obtain ⟨a0,ale,cap0,rfl⟩:=okWide_slice Tryz.underlying22 (hval 0 22 v0 rfl rfl);have k0:=h0;have lt0: ∀ x∈p0,x.block < W.heap.size:=by obtain ⟨m,hm⟩:=k0; exact DataW.trod_lt m _ _ _ hm
 have w0:Bytes W a0 ale:=by
  obtain ⟨fuel,hf⟩:=h0;rcases open_ints Tryz.underlying22 Tryz.underlying5 Zcq hf with ⟨hcs,_⟩ | ⟨x,l,c,zs,hcs,_,hl,hm,hz,_,hcell,hwz⟩
  .simp [Value.cells] at hcs
   exact .inl hcs.2.1
  .simp [Value.cells] at hcs
   obtain ⟨rfl,rfl,rfl⟩:=hcs;exact GL hl (by simpa using hz) hcell hwz
 obtain ⟨E,hE⟩:=ahW hL;clear hA0 Jk;refine (anu a0 ale cap0 E W hE (fun _=>w0)).mono fun e W' ⟨he,cd⟩=> ?_
 subst he;exact ⟨_,rfl,_,_,_,[],_,_,hW',trodAll_mk1 (shut_bool Tryz.underlying4 _),(trodAll_cons_mk (Below.trod Tryz.laidOut Zcq (of_decide_eq_true Zcq) k0 cd lt0) trodAll_mk0),Below.trodVars Tryz.laidOut cd Zcq hV,cd.frame _,fun h=>by cases h⟩
theorem anp:Rows.FnTickPartsSaid:=
 OpenClaim.holds_of_wide 6 Tryz.f6 rfl rfl rfl rfl rfl rfl rfl ⟨rfl,rfl,rfl,rfl,rfl⟩ rfl rfl rfl rfl rfl amg Tryz.func6 amm amk aml
  (fun os started H enc _=>amO os started H enc)
theorem tickParts_holds:Rows.FnTickPartsCardSaid:=
 Claim7.holds_tied_plain_at .later [] [.handle, .sentinel, .sentinel, .sentinel] true (true, "a2f798ca2c9170f85cf3cc1ac6184866404f8f3f70b77c527a066e0f8813429a") true
  anp (fun _ h=>by cases h) Zcq (fun _ h=>by cases h) fnTickParts_row_tie rfl ⟨rfl,rfl⟩ Zcq rfl
  (fun f fn hf hfn=>by
   obtain rfl : f = 6 := KC ((show Tryz.prog.funcNamed "loop.example/g00313/laws.FnTickParts" = some 6 by kernel_rfl).symm.trans hf) |>.symm
   obtain rfl:fn=Tryz.f6:=(KC (Tryz.func6.symm.trans hfn)).symm;exact ⟨by kernel_rfl,fun j t ht=>by
    rw [Tryz.params6] at ht;have hm:t∈ [22] :=by simpa using Array.mem_of_getElem? ht
    have hall:([22].all fun u=> !Tryz.prog.wantsStandIn u)=true:=by kernel_rfl
    exact (show Tryz.prog.wantsStandIn t=false by simpa using PZ.1 hall t hm)⟩)
  Zcq
#print axioms tickParts_holds
end Go.Proofs.YtfncpmaefninjaaGreatDoor
