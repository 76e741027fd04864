/- Proved: at every partition and numbers TickedBy answers as its specification, writes into no argument and keeps nothing of one; its answer owns its memory, behind another call too (the exact law of TickedBy returns true). Conditions: the statement's own: the three errors and errors.errorType are laid as the programme's text says (the card ties them). -/
import Derived.Test.YtnlbiglljiopmaaGreatDoorOwnB0
import Derived.Test.YtnlbiglljiopmaaGreatDoorOwnB1
import Derived.Test.YtnlbiglljiopmaaGreatDoorTie
import Derived.Test.YtnlbiglljiopmaaGreatDoorCards
import Derived.OpenVars
set_option linter.unusedVariables false
set_option maxRecDepth 100000
set_option maxHeartbeats 8000000
open Go.Proofs.Tryz
open Go.Proofs.Tryz renaming prog->J3,underlying2->KN
open Option.some renaming inj->KC

namespace Go.Proofs.YtnlbiglljiopmaaGreatDoor
open Go.ChangeShapes Go.WideShapes Go.ChangeAt Go.RowKit
theorem Tryz.own:ownKnob Tryz.prog.godebug=none:=by kernel_rfl
theorem Tryz.laidOut:laidOutB J3=true:=by kernel_rfl
theorem aie (os:Os) (args:Array Value):laidMetH J3 Rows.fnExactTickedByRow.laid ((World.doorLaid J3 600 os).forCall (fun _ _=>0) ⟨#[],args,[]⟩).memory:=
 laidMetH_of_parts3 (fuel:=8) (laidMet_of_run' 8 ZcR ZcR) ZcR ZcR
theorem ajR {H:Type} {enc:TypeId × Value→H} {P:Program} {w:World} {spare:Nat→Bool} {a b c:String} {gs:List (DataW H)} {ps:List MemPlace} (h:DataW.TrodVars enc P w spare [a,b,c] gs ps): ∃ x y z,gs= [x,y,z] :=by
 cases gs with
 | nil=>simp [DataW.TrodVars] at h
 | cons d ds=>
  obtain ⟨_,_,_,_,_,_,_,_,_,_,hs,_⟩:=h;obtain ⟨_,_,_,_,d0,_,_,_,_,_,d1,_,rfl,_⟩:=trodVars_two hs;exact ⟨d,d0,d1,rfl⟩
theorem ahJ {n:Int} (h:(Lit.int .i64 n).wf=true): -9223372036854775808≤n∧n≤9223372036854775807:=by
 have e1:IntKind.min .i64= -9223372036854775808:=by decide
 have e2:IntKind.max .i64=9223372036854775807:=by decide
 simp only [Lit.wf,Bool.and_eq_true,decide_eq_true_eq] at h;omega
theorem ahZ (os:Os) (started:os.Started) (H:Type) (enc:TypeId × Value→H):
  ReturnsInHanded {} Tryz.checked os 4 .any (fun w args=>(Rows.fnExactTickedBySpec.pre enc J3 Tryz.f4 [] false w args∧laidMetH J3 Rows.fnExactTickedByRow.laid w)∧sizedMet enc J3 Tryz.f4 (OpenSpec.ofChange Rows.fnExactTickedBySpec) false w args)
   (Rows.fnExactTickedBySpec.post enc J3 Tryz.f4 false true false false):=by
 refine returnsInHanded_of_change_and (C:=Tryz.checked) (X:=fun w _=>laidMetH J3 Rows.fnExactTickedByRow.laid w) (fun _ _ _ hh h=>h.of_heap hh) Tryz.own started ZcR Tryz.func4
  (ChangeSpec.witness_shaped (enc:=enc) (C:=Tryz.checked) (os:=os) (X:=fun w _=>laidMetH J3 Rows.fnExactTickedByRow.laid w) false (World.doorLaid J3 600 os) #[.agg #[.int .i64 0,.int .i64 0,.slice none 0 0,.slice none 0 0,.slice none 0 0,.slice none 0 0,.slice none 0 0,.slice none 0 0],.int .i64 0,.int .i64 0] 8 rfl (World.shaped_of_RefB ZcR ZcR) ZcR ZcR ZcR (aie os _)) ?_
 intro W base args ds gs before Jk hW _ _ hL _;have hval: ∀ (j:Nat) t v,Tryz.f4.params[j]? =some t→args[j]? =some v→Value.okWide J3 W .any base t v:=Jk;have hW':=hW;obtain ⟨p,q,hA0,hV,rfl,hfz,hnd⟩:=hW;have hA:DataW.TrodAll enc J3 W 0 (fun _=>true) true Tryz.f4.params.toList args.toList ds p:=hA0;rw [Tryz.params4] at hA hval;obtain ⟨v0,vs0,d0,ds0,p0,q0,hargs,rfl,rfl,h0,r0⟩:=trodAll_cons hA;obtain ⟨v1,vs1,d1,ds1,p1,q1,rfl,rfl,rfl,h1,r1⟩:=trodAll_cons r0;obtain ⟨v2,vs2,d2,ds2,p2,q2,rfl,rfl,rfl,h2,r2⟩:=trodAll_cons r1;obtain ⟨rfl,rfl,rfl⟩:=trodAll_nil r2;obtain rfl:args= #[v0,v1,v2] :=by cases args; simp_all
 obtain ⟨x1,x2,x3,rfl⟩:=ajR hV;have k0:=h0;have lt0: ∀ x∈p0,x.block < W.heap.size:=by obtain ⟨m,hm⟩:=k0; exact DataW.trod_lt m _ _ _ hm
 obtain ⟨pt,rfl,hb,hc,hi⟩:=aaQ (hval 0 29 v0 rfl rfl) h0;obtain ⟨now,rfl,rfl,rfl,w1⟩:=open_int KN (hval 1 2 v1 rfl rfl) h1;obtain ⟨n,rfl,rfl,rfl,w2⟩:=open_int KN (hval 2 2 v2 rfl rfl) h2;obtain ⟨E,hE⟩:=ahW hL;clear hA0 Jk;refine (ah0 pt now n W hb hc hi E hE (ahJ w1)).mono fun e W' ⟨he,cd⟩=> ?_
 subst he;exact ⟨_,rfl,_,_,_,[],_,_,hW',trodAll_mk1 (shut_bool Tryz.underlying4 _),(trodAll_cons_mk (Below.trod Tryz.laidOut ZcR (of_decide_eq_true ZcR) k0 cd lt0) (trodAll_cons_mk (shut_int KN w1) (trodAll_cons_mk (shut_int KN w2) trodAll_mk0))),Below.trodVars Tryz.laidOut cd ZcR hV,cd.frame _,fun h=>by cases h⟩
theorem aiD:Rows.FnExactTickedBySaid:=
 OpenClaim.holds_of_wide 4 Tryz.f4 rfl rfl rfl rfl rfl rfl rfl ⟨rfl,rfl,rfl,rfl,rfl⟩ rfl rfl rfl rfl rfl aho Tryz.func4 ahx ahq ahp
  (fun os started H enc _=>ahZ os started H enc)
theorem tickedBy_holds:Rows.FnExactTickedByCardSaid:=
 Claim7.holds_tied_plain_at .later [] [.handle, .sentinel, .sentinel, .sentinel] true (true, "ce43f61791af67faeaa6d0a183248cb1f41a7064ef170cf09f24787451bed4a8") true
  aiD (fun _ h=>by cases h) ZcR (fun _ h=>by cases h) fnExactTickedBy_row_tie rfl ⟨rfl,rfl⟩ ZcR rfl
  (fun f fn hf hfn=>by
   obtain rfl : f = 4 := KC ((show Tryz.prog.funcNamed "loop.example/g00313/laws.FnExactTickedBy" = some 4 by kernel_rfl).symm.trans hf) |>.symm
   obtain rfl:fn=Tryz.f4:=(KC (Tryz.func4.symm.trans hfn)).symm;exact ⟨by kernel_rfl,fun j t ht=>by
    rw [Tryz.params4] at ht;have hm:t∈ [29,2,2] :=by simpa using Array.mem_of_getElem? ht
    have hall:([29,2,2].all fun u=> !Tryz.prog.wantsStandIn u)=true:=by kernel_rfl
    exact (show Tryz.prog.wantsStandIn t=false by simpa using List.all_eq_true.1 hall t hm)⟩)
  ZcR
#print axioms tickedBy_holds
end Go.Proofs.YtnlbiglljiopmaaGreatDoor
