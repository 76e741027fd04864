/- Proved: at every partition and number Ticked answers as its specification, writes into no argument and keeps nothing of one; its answer owns its memory, behind another call too (the exact law of Ticked returns true). Conditions: the statement's own: the three errors and errors.errorType are laid as the programme's text says (the card ties them). -/
import Derived.Test.YtnlbiglljiopmaaGreatDoorOwnA0
import Derived.Test.YtnlbiglljiopmaaGreatDoorOwnA1
import Derived.Test.YtnlbiglljiopmaaGreatDoorTie
import Derived.Test.YtnlbiglljiopmaaGreatDoorCards
set_option maxRecDepth 100000
set_option maxHeartbeats 8000000
open Go.Proofs.Tryz
open Go.Proofs.Tryz renaming prog->J3,underlying2->KN
open Option.some renaming inj->KC

namespace Go.Proofs.YtnlbiglljiopmaaGreatDoor
open Go.ChangeShapes Go.WideShapes Go.ChangeAt Go.RowKit
theorem Tryz.own:ownKnob Tryz.prog.godebug=none:=by kernel_rfl
theorem Tryz.laidOut:laidOutB J3=true:=by kernel_rfl
theorem aie (os:Os) (args:Array Value):laidMetH J3 Rows.fnExactTickedRow.laid ((World.doorLaid J3 600 os).forCall (fun _ _=>0) ⟨#[],args,[]⟩).memory:=
 laidMetH_of_parts3 (fuel:=8) (laidMet_of_run' 8 (by kernel_rfl) (by kernel_rfl)) (by kernel_rfl) (by kernel_rfl)
theorem ajR {H:Type} {enc:TypeId × Value→H} {P:Program} {w:World} {spare:Nat→Bool} {a b c:String} {gs:List (DataW H)} {ps:List MemPlace} (h:DataW.TrodVars enc P w spare [a,b,c] gs ps): ∃ x y z,gs= [x,y,z] :=by
 cases gs with
 | nil=>simp [DataW.TrodVars] at h
 | cons d ds=>
  obtain ⟨_,_,_,_,_,_,_,_,_,_,hs,_⟩:=h;obtain ⟨_,_,_,_,d0,_,_,_,_,_,d1,_,rfl,_⟩:=trodVars_two hs;exact ⟨d,d0,d1,rfl⟩
theorem ahJ {n:Int} (h:(Lit.int .i64 n).wf=true): -9223372036854775808≤n∧n≤9223372036854775807:=by
 have e1:IntKind.min .i64= -9223372036854775808:=by decide
 have e2:IntKind.max .i64=9223372036854775807:=by decide
 simp only [Lit.wf,Bool.and_eq_true,decide_eq_true_eq] at h;omega
theorem aik (os:Os) (started:os.Started) (H:Type) (enc:TypeId × Value→H):
  ReturnsInHanded {} Tryz.checked os 3 .any (fun w args=>(Rows.fnExactTickedSpec.pre enc J3 Tryz.f3 [] false w args∧laidMetH J3 Rows.fnExactTickedRow.laid w)∧sizedMet enc J3 Tryz.f3 (OpenSpec.ofChange Rows.fnExactTickedSpec) false w args)
   (Rows.fnExactTickedSpec.post enc J3 Tryz.f3 false true false false):=by
 refine returnsInHanded_of_change_and (C:=Tryz.checked) (X:=fun w _=>laidMetH J3 Rows.fnExactTickedRow.laid w) (fun _ _ _ hh h=>h.of_heap hh) Tryz.own started (by kernel_rfl) Tryz.func3
  (ChangeSpec.witness_shaped (enc:=enc) (C:=Tryz.checked) (os:=os) (X:=fun w _=>laidMetH J3 Rows.fnExactTickedRow.laid w) false (World.doorLaid J3 600 os) #[.agg #[.int .i64 0,.int .i64 0,.slice none 0 0,.slice none 0 0,.slice none 0 0,.slice none 0 0,.slice none 0 0,.slice none 0 0],.int .i64 0] 8 rfl (World.shaped_of_RefB (by kernel_rfl) (by kernel_rfl)) (by kernel_rfl) (by kernel_rfl) (by kernel_rfl) (aie os _)) ?_
 intro W base args ds gs before Jk hW _ _ hL _;have hval: ∀ (j:Nat) t v,Tryz.f3.params[j]? =some t→args[j]? =some v→Value.okWide J3 W .any base t v:=Jk;have hW':=hW;obtain ⟨p,q,hA0,hV,rfl,hfz,hnd⟩:=hW;have hA:DataW.TrodAll enc J3 W 0 (fun _=>true) true Tryz.f3.params.toList args.toList ds p:=hA0;rw [Tryz.params3] at hA hval;obtain ⟨v0,vs0,d0,ds0,p0,q0,hargs,rfl,rfl,h0,r0⟩:=trodAll_cons hA;obtain ⟨v1,vs1,d1,ds1,p1,q1,rfl,rfl,rfl,h1,r1⟩:=trodAll_cons r0;obtain ⟨rfl,rfl,rfl⟩:=trodAll_nil r1;obtain rfl:args= #[v0,v1] :=by cases args; simp_all
 obtain ⟨x1,x2,x3,rfl⟩:=ajR hV;have k0:=h0;have lt0: ∀ x∈p0,x.block < W.heap.size:=by obtain ⟨m,hm⟩:=k0; exact DataW.trod_lt m _ _ _ hm
 obtain ⟨pt,rfl,hb,hc,hi⟩:=aaQ (hval 0 29 v0 rfl rfl) h0;obtain ⟨now,rfl,rfl,rfl,w1⟩:=open_int KN (hval 1 2 v1 rfl rfl) h1;obtain ⟨E,hE⟩:=ahW hL;clear hA0 Jk;refine (ail pt now W hb hc hi E hE (ahJ w1)).mono fun e W' ⟨he,cd⟩=> ?_
 subst he;exact ⟨_,rfl,_,_,_,[],_,_,hW',trodAll_mk1 (shut_bool Tryz.underlying4 _),(trodAll_cons_mk (Below.trod Tryz.laidOut (by kernel_rfl) (of_decide_eq_true (by kernel_rfl)) k0 cd lt0) (trodAll_cons_mk (shut_int KN w1) trodAll_mk0)),Below.trodVars Tryz.laidOut cd (by kernel_rfl) hV,cd.frame _,fun h=>by cases h⟩
theorem aiY:Rows.FnExactTickedSaid:=
 OpenClaim.holds_of_wide 3 Tryz.f3 rfl rfl rfl rfl rfl rfl rfl ⟨rfl,rfl,rfl,rfl,rfl⟩ rfl rfl rfl rfl rfl ahM Tryz.func3 ah1 ahN ahP
  (fun os started H enc _=>aik os started H enc)
theorem ticked_holds:Rows.FnExactTickedCardSaid:=
 Claim7.holds_tied_plain_at .later [] [.handle, .sentinel, .sentinel, .sentinel] true (true, "ce43f61791af67faeaa6d0a183248cb1f41a7064ef170cf09f24787451bed4a8") true
  aiY (fun _ h=>by cases h) (by kernel_rfl) (fun _ h=>by cases h) fnExactTicked_row_tie rfl ⟨rfl,rfl⟩ (by kernel_rfl) rfl
  (fun f fn hf hfn=>by
   obtain rfl : f = 3 := KC ((show Tryz.prog.funcNamed "loop.example/g00313/laws.FnExactTicked" = some 3 by kernel_rfl).symm.trans hf) |>.symm
   obtain rfl:fn=Tryz.f3:=(KC (Tryz.func3.symm.trans hfn)).symm;exact ⟨by kernel_rfl,fun j t ht=>by
    rw [Tryz.params3] at ht;have hm:t∈ [29,2] :=by simpa using Array.mem_of_getElem? ht
    have hall:([29,2].all fun u=> !Tryz.prog.wantsStandIn u)=true:=by kernel_rfl
    exact (show Tryz.prog.wantsStandIn t=false by simpa using List.all_eq_true.1 hall t hm)⟩)
  (by kernel_rfl)
#print axioms ticked_holds
end Go.Proofs.YtnlbiglljiopmaaGreatDoor
