/- What the proof leans on, part 3: LawZ~x, LaSem, LaEvent, LaBoard, LaBuffer, LaPort. -/
import Derived.Test.YtkbcplnlehdjfaaGreatOwnB2
import Derived.Test.YtkbcplnlehdjfaaGreatOwnB23
import Derived.Test.YtkbcplnlehdjfaaGreatOwnB24
import Derived.Test.YtkbcplnlehdjfaaGreatOwnB25
import Derived.Test.YtkbcplnlehdjfaaGreatOwnB27
import Derived.Test.YtkbcplnlehdjfaaGreatOwnTh0
import Derived.Test.YtkbcplnlehdjfaaGreatOwnTh1
import Derived.Test.YtkbcplnlehdjfaaGreatOwnTh2
set_option maxRecDepth 100000
set_option maxHeartbeats 8000000

namespace Go.Proofs.YtkbcplnlehdjfaaGreat
open Go Go.RowKit
theorem tkr {P:Program} {md:Region.Mode} {ops:Array Oper} {Q:Exit→Act→World→Prop} {S:World→Prop} (i:Nat) {oi:Oper} {v:Value} {fuel:Nat} {listed:Array Bool} {a:Act} {w:World} {d:Tmp} (hi:ops[i]? =some oi) (hy:YieldsIf P ops S oi v a) (hS:S w)
  (h:wpAnyH P md ops Q S fuel (listed.setIfInBounds i true) (a.put (some d) v) w) (hd:oi.dst=some d:=by rfl) (h1:Region.noSelect ops=true:=by kernel_rfl) (h2:Region.free md ops listed i=true:=by kernel_rfl) (h3:(Region.ready md ops listed).contains i=true:=by kernel_rfl)
  (hQ: ∀ c a w,Q (.panic c) (a.put (some d) v) w→Q (.panic c) a w:=by exact fun _ _ _ h=>h):wpAnyH P md ops Q S (fuel+1) listed a w:=by
 rw [← hd] at h hQ
 exact wpAnyH_take (i:=i) hi h1 h2 h3 hQ hy hS h
section
variable {cs:Array Value} {T:TypeId} {X:Nat} {W W':World} {bs:List Nat}
end
section
variable {p q:af} {w W U V:World} {B X b:Nat} {cs:Array Value} {T:TypeId} {Y:Prop}
end
end Go.Proofs.YtkbcplnlehdjfaaGreat
namespace Go.Proofs.YtkbcplnlehdjfaaGreat
open Go.RowKit Go.Maps
theorem cJ.laySem {w w':World} {base o:Nat} {S:aZ} {x:bD} {e:Ending} (h:cJ w base o S) (hb:base≤w.heap.size) (hl:dD w S.q.bs (keysOf (fun x:bD=>x.id) S.ls) true x.id (eH x) 49 e w'):
  ∃ g,cJ w' base o { S with ls:=fc (fun x:bD=>x.id) (x,g) S.ls } ∧Below base w w':=by
 obtain ⟨g,hg,hsh,hgr⟩:=h.aj.lay hb hl
 have hn:=h.nodup
 obtain ⟨hno,hn2⟩:=List.nodup_cons.1 hn
 obtain ⟨hnb,hnk,yD⟩:=List.nodup_append.1 hn2
 have I3:=hnb
 unfold aZ.boxes at hnb
 obtain ⟨-,r0,d0⟩:=List.nodup_append.1 hnb
 obtain ⟨-,r1,d1⟩:=List.nodup_append.1 r0
 clear r1
 have hs: ∀ c∈o :: (S.boxes ++ S.kids),c≠S.q.bs→w'.heap[c]? =w.heap[c]? :=fun c hc hne=>hgr.block c (h.lt c hc) (fun e=>hne (Option.some.inj e))
 have wU:S.q.bs∈S.boxes:=by unfold aZ.boxes; exact (List.mem_append_right _ (List.mem_append_left _ (List.mem_cons_self ..)))
 have iH: ∀ c∈S.kids,w'.heap[c]? =w.heap[c]? :=fun c hc=>hs c (List.mem_cons_of_mem _ (List.mem_append_right _ hc)) (fun e=>yD _ wU c hc e.symm)
 refine ⟨g,⟨(hs o (List.mem_cons_self ..) (fun e=>hno (e ▸ List.mem_append_left _ wU))).trans h.opn,h.procs.same (fun c hc=>hs c (List.mem_cons_of_mem _ (List.mem_append_left _ (by unfold aZ.boxes; exact (List.mem_append_left _ hc)))) (d0 c hc _ (List.mem_append_left _ (List.mem_cons_self ..)))),hsh,h.events.same (fun c hc=>hs c (List.mem_cons_of_mem _ (List.mem_append_left _ (by unfold aZ.boxes; exact (List.mem_append_right _ (List.mem_append_right _ (List.mem_append_left _ hc)))))) (fun e=>d1 _ (List.mem_cons_self ..) c (List.mem_append_left _ hc) e.symm)),h.ag.same (fun c hc=>hs c (List.mem_cons_of_mem _ (List.mem_append_left _ (by unfold aZ.boxes; exact (List.mem_append_right _ (List.mem_append_right _ (List.mem_append_right _ (List.mem_append_left _ hc))))))) (fun e=>d1 _ (List.mem_cons_self ..) c (List.mem_append_right _ (List.mem_append_left _ hc)) e.symm)),h.ae.same (fun c hc=>hs c (List.mem_cons_of_mem _ (List.mem_append_left _ (by unfold aZ.boxes; exact (List.mem_append_right _ (List.mem_append_right _ (List.mem_append_right _ (List.mem_append_right _ (List.mem_append_left _ hc)))))))) (fun e=>d1 _ (List.mem_cons_self ..) c (List.mem_append_right _ (List.mem_append_right _ (List.mem_append_left _ hc))) e.symm)),h.ai.same (fun c hc=>hs c (List.mem_cons_of_mem _ (List.mem_append_left _ (by unfold aZ.boxes; exact (List.mem_append_right _ (List.mem_append_right _ (List.mem_append_right _ (List.mem_append_right _ (List.mem_append_right _ hc)))))))) (fun e=>d1 _ (List.mem_cons_self ..) c (List.mem_append_right _ (List.mem_append_right _ (List.mem_append_right _ hc))) e.symm)),fun r hr=>(h.eI r hr).same fun c hc=>iH c (by unfold aZ.kids; exact (List.mem_append_left _ (List.mem_filterMap.2 ⟨r,hr,hc⟩))),fun r hr=>(h.eE r hr).same fun c hc=>iH c (by unfold aZ.kids; exact (List.mem_append_right _ (List.mem_append_left _ (List.mem_filterMap.2 ⟨r,hr,hc⟩)))),fun r hr=>(h.eR r hr).same fun c hc=>iH c (by unfold aZ.kids; exact (List.mem_append_right _ (List.mem_append_right _ (List.mem_filterMap.2 ⟨r,hr,hc⟩)))),?_,h.low⟩,(Below.refl _ _).grown hgr hb fun c e=>(Option.some.inj e) ▸ h.aj.low _ (List.mem_cons_self ..)⟩
 have hp1:({ S with ls:=fc (fun x:bD=>x.id) (x,g) S.ls } :aZ).boxes.Perm (g :: S.boxes):=by unfold aZ.boxes; exact (dY ((lM (num:=(fun x:bD=>x.id)) x S.q.bs g S.ls).append_right _))
 have hlt:=h.lt
 have hp2:(o :: (({ S with ls:=fc (fun x:bD=>x.id) (x,g) S.ls } :aZ).boxes ++ S.kids)).Perm (g :: (o :: (S.boxes ++ S.kids))):=(List.Perm.cons o (hp1.append_right _)).trans (List.Perm.swap g o _)
 exact hp2.nodup_iff.2 (List.nodup_cons.2 ⟨fun hm=>by have:=hlt g hm; omega,hn⟩)
theorem cJ.FG {w w':World} {base o:Nat} {S:aZ} {x:aB} {e:Ending} (h:cJ w base o S) (hb:base≤w.heap.size) (hl:dD w S.q.be (keysOf (fun x:aB=>x.id) S.le) true x.id (cG x) 138 e w'):
  ∃ g,cJ w' base o { S with le:=fc (fun x:aB=>x.id) (x,g) S.le } ∧Below base w w':=by
 obtain ⟨g,hg,hsh,hgr⟩:=h.events.lay hb hl
 have hn:=h.nodup
 obtain ⟨hno,hn2⟩:=List.nodup_cons.1 hn
 obtain ⟨hnb,hnk,yD⟩:=List.nodup_append.1 hn2
 have I3:=hnb
 unfold aZ.boxes at hnb
 obtain ⟨-,r0,d0⟩:=List.nodup_append.1 hnb
 obtain ⟨-,r1,d1⟩:=List.nodup_append.1 r0
 obtain ⟨-,r2,d2⟩:=List.nodup_append.1 r1
 clear r2
 have hs: ∀ c∈o :: (S.boxes ++ S.kids),c≠S.q.be→w'.heap[c]? =w.heap[c]? :=fun c hc hne=>hgr.block c (h.lt c hc) (fun e=>hne (Option.some.inj e))
 have wU:S.q.be∈S.boxes:=by unfold aZ.boxes; exact (List.mem_append_right _ (List.mem_append_right _ (List.mem_append_left _ (List.mem_cons_self ..))))
 have iH: ∀ c∈S.kids,w'.heap[c]? =w.heap[c]? :=fun c hc=>hs c (List.mem_cons_of_mem _ (List.mem_append_right _ hc)) (fun e=>yD _ wU c hc e.symm)
 refine ⟨g,⟨(hs o (List.mem_cons_self ..) (fun e=>hno (e ▸ List.mem_append_left _ wU))).trans h.opn,h.procs.same (fun c hc=>hs c (List.mem_cons_of_mem _ (List.mem_append_left _ (by unfold aZ.boxes; exact (List.mem_append_left _ hc)))) (d0 c hc _ (List.mem_append_right _ (List.mem_append_left _ (List.mem_cons_self ..))))),h.aj.same (fun c hc=>hs c (List.mem_cons_of_mem _ (List.mem_append_left _ (by unfold aZ.boxes; exact (List.mem_append_right _ (List.mem_append_left _ hc))))) (d1 c hc _ (List.mem_append_left _ (List.mem_cons_self ..)))),hsh,h.ag.same (fun c hc=>hs c (List.mem_cons_of_mem _ (List.mem_append_left _ (by unfold aZ.boxes; exact (List.mem_append_right _ (List.mem_append_right _ (List.mem_append_right _ (List.mem_append_left _ hc))))))) (fun e=>d2 _ (List.mem_cons_self ..) c (List.mem_append_left _ hc) e.symm)),h.ae.same (fun c hc=>hs c (List.mem_cons_of_mem _ (List.mem_append_left _ (by unfold aZ.boxes; exact (List.mem_append_right _ (List.mem_append_right _ (List.mem_append_right _ (List.mem_append_right _ (List.mem_append_left _ hc)))))))) (fun e=>d2 _ (List.mem_cons_self ..) c (List.mem_append_right _ (List.mem_append_left _ hc)) e.symm)),h.ai.same (fun c hc=>hs c (List.mem_cons_of_mem _ (List.mem_append_left _ (by unfold aZ.boxes; exact (List.mem_append_right _ (List.mem_append_right _ (List.mem_append_right _ (List.mem_append_right _ (List.mem_append_right _ hc)))))))) (fun e=>d2 _ (List.mem_cons_self ..) c (List.mem_append_right _ (List.mem_append_right _ hc)) e.symm)),fun r hr=>(h.eI r hr).same fun c hc=>iH c (by unfold aZ.kids; exact (List.mem_append_left _ (List.mem_filterMap.2 ⟨r,hr,hc⟩))),fun r hr=>(h.eE r hr).same fun c hc=>iH c (by unfold aZ.kids; exact (List.mem_append_right _ (List.mem_append_left _ (List.mem_filterMap.2 ⟨r,hr,hc⟩)))),fun r hr=>(h.eR r hr).same fun c hc=>iH c (by unfold aZ.kids; exact (List.mem_append_right _ (List.mem_append_right _ (List.mem_filterMap.2 ⟨r,hr,hc⟩)))),?_,h.low⟩,(Below.refl _ _).grown hgr hb fun c e=>(Option.some.inj e) ▸ h.events.low _ (List.mem_cons_self ..)⟩
 have hp1:({ S with le:=fc (fun x:aB=>x.id) (x,g) S.le } :aZ).boxes.Perm (g :: S.boxes):=by unfold aZ.boxes; exact (dY (dY ((lM (num:=(fun x:aB=>x.id)) x S.q.be g S.le).append_right _)))
 have hlt:=h.lt
 have hp2:(o :: (({ S with le:=fc (fun x:aB=>x.id) (x,g) S.le } :aZ).boxes ++ S.kids)).Perm (g :: (o :: (S.boxes ++ S.kids))):=(List.Perm.cons o (hp1.append_right _)).trans (List.Perm.swap g o _)
 exact hp2.nodup_iff.2 (List.nodup_cons.2 ⟨fun hm=>by have:=hlt g hm; omega,hn⟩)
theorem cJ.Gb {w w':World} {base o:Nat} {S:aZ} {x:az} {e:Ending} (h:cJ w base o S) (hb:base≤w.heap.size) (hl:dD w S.q.bb (keysOf (fun x:az=>x.id) S.lb) true x.id (cI x) 141 e w'):
  ∃ g,cJ w' base o { S with lb:=fc (fun x:az=>x.id) (x,g) S.lb } ∧Below base w w':=by
 obtain ⟨g,hg,hsh,hgr⟩:=h.ag.lay hb hl
 have hn:=h.nodup
 obtain ⟨hno,hn2⟩:=List.nodup_cons.1 hn
 obtain ⟨hnb,hnk,yD⟩:=List.nodup_append.1 hn2
 have I3:=hnb
 unfold aZ.boxes at hnb
 obtain ⟨-,r0,d0⟩:=List.nodup_append.1 hnb
 obtain ⟨-,r1,d1⟩:=List.nodup_append.1 r0
 obtain ⟨-,r2,d2⟩:=List.nodup_append.1 r1
 obtain ⟨-,r3,d3⟩:=List.nodup_append.1 r2
 clear r3
 have hs: ∀ c∈o :: (S.boxes ++ S.kids),c≠S.q.bb→w'.heap[c]? =w.heap[c]? :=fun c hc hne=>hgr.block c (h.lt c hc) (fun e=>hne (Option.some.inj e))
 have wU:S.q.bb∈S.boxes:=by unfold aZ.boxes; exact (List.mem_append_right _ (List.mem_append_right _ (List.mem_append_right _ (List.mem_append_left _ (List.mem_cons_self ..)))))
 have iH: ∀ c∈S.kids,w'.heap[c]? =w.heap[c]? :=fun c hc=>hs c (List.mem_cons_of_mem _ (List.mem_append_right _ hc)) (fun e=>yD _ wU c hc e.symm)
 refine ⟨g,⟨(hs o (List.mem_cons_self ..) (fun e=>hno (e ▸ List.mem_append_left _ wU))).trans h.opn,h.procs.same (fun c hc=>hs c (List.mem_cons_of_mem _ (List.mem_append_left _ (by unfold aZ.boxes; exact (List.mem_append_left _ hc)))) (d0 c hc _ (List.mem_append_right _ (List.mem_append_right _ (List.mem_append_left _ (List.mem_cons_self ..)))))),h.aj.same (fun c hc=>hs c (List.mem_cons_of_mem _ (List.mem_append_left _ (by unfold aZ.boxes; exact (List.mem_append_right _ (List.mem_append_left _ hc))))) (d1 c hc _ (List.mem_append_right _ (List.mem_append_left _ (List.mem_cons_self ..))))),h.events.same (fun c hc=>hs c (List.mem_cons_of_mem _ (List.mem_append_left _ (by unfold aZ.boxes; exact (List.mem_append_right _ (List.mem_append_right _ (List.mem_append_left _ hc)))))) (d2 c hc _ (List.mem_append_left _ (List.mem_cons_self ..)))),hsh,h.ae.same (fun c hc=>hs c (List.mem_cons_of_mem _ (List.mem_append_left _ (by unfold aZ.boxes; exact (List.mem_append_right _ (List.mem_append_right _ (List.mem_append_right _ (List.mem_append_right _ (List.mem_append_left _ hc)))))))) (fun e=>d3 _ (List.mem_cons_self ..) c (List.mem_append_left _ hc) e.symm)),h.ai.same (fun c hc=>hs c (List.mem_cons_of_mem _ (List.mem_append_left _ (by unfold aZ.boxes; exact (List.mem_append_right _ (List.mem_append_right _ (List.mem_append_right _ (List.mem_append_right _ (List.mem_append_right _ hc)))))))) (fun e=>d3 _ (List.mem_cons_self ..) c (List.mem_append_right _ hc) e.symm)),fun r hr=>(h.eI r hr).same fun c hc=>iH c (by unfold aZ.kids; exact (List.mem_append_left _ (List.mem_filterMap.2 ⟨r,hr,hc⟩))),fun r hr=>(h.eE r hr).same fun c hc=>iH c (by unfold aZ.kids; exact (List.mem_append_right _ (List.mem_append_left _ (List.mem_filterMap.2 ⟨r,hr,hc⟩)))),fun r hr=>(h.eR r hr).same fun c hc=>iH c (by unfold aZ.kids; exact (List.mem_append_right _ (List.mem_append_right _ (List.mem_filterMap.2 ⟨r,hr,hc⟩)))),?_,h.low⟩,(Below.refl _ _).grown hgr hb fun c e=>(Option.some.inj e) ▸ h.ag.low _ (List.mem_cons_self ..)⟩
 have hp1:({ S with lb:=fc (fun x:az=>x.id) (x,g) S.lb } :aZ).boxes.Perm (g :: S.boxes):=by unfold aZ.boxes; exact (dY (dY (dY ((lM (num:=(fun x:az=>x.id)) x S.q.bb g S.lb).append_right _))))
 have hlt:=h.lt
 have hp2:(o :: (({ S with lb:=fc (fun x:az=>x.id) (x,g) S.lb } :aZ).boxes ++ S.kids)).Perm (g :: (o :: (S.boxes ++ S.kids))):=(List.Perm.cons o (hp1.append_right _)).trans (List.Perm.swap g o _)
 exact hp2.nodup_iff.2 (List.nodup_cons.2 ⟨fun hm=>by have:=hlt g hm; omega,hn⟩)
theorem cJ.EZ {w w':World} {base o:Nat} {S:aZ} {x:au} {e:Ending} (h:cJ w base o S) (hb:base≤w.heap.size) (hm:aC.cO w base x) (hk: ∀ c,aC.bt x=some c→c∉o :: (S.boxes ++ S.kids)) (hl:dD w S.q.bf (keysOf (fun x:au=>x.id) S.lf) true x.id (bQ x) 144 e w'):
  ∃ g,cJ w' base o { S with lf:=fc (fun x:au=>x.id) (x,g) S.lf } ∧Below base w w':=by
 obtain ⟨g,hg,hsh,hgr⟩:=h.ae.lay hb hl
 have hn:=h.nodup
 obtain ⟨hno,hn2⟩:=List.nodup_cons.1 hn
 obtain ⟨hnb,hnk,yD⟩:=List.nodup_append.1 hn2
 have I3:=hnb
 unfold aZ.boxes at hnb
 obtain ⟨-,r0,d0⟩:=List.nodup_append.1 hnb
 obtain ⟨-,r1,d1⟩:=List.nodup_append.1 r0
 obtain ⟨-,r2,d2⟩:=List.nodup_append.1 r1
 obtain ⟨-,r3,d3⟩:=List.nodup_append.1 r2
 obtain ⟨-,r4,d4⟩:=List.nodup_append.1 r3
 clear r4
 have hs: ∀ c∈o :: (S.boxes ++ S.kids),c≠S.q.bf→w'.heap[c]? =w.heap[c]? :=fun c hc hne=>hgr.block c (h.lt c hc) (fun e=>hne (Option.some.inj e))
 have wU:S.q.bf∈S.boxes:=by unfold aZ.boxes; exact (List.mem_append_right _ (List.mem_append_right _ (List.mem_append_right _ (List.mem_append_right _ (List.mem_append_left _ (List.mem_cons_self ..))))))
 have iH: ∀ c∈S.kids,w'.heap[c]? =w.heap[c]? :=fun c hc=>hs c (List.mem_cons_of_mem _ (List.mem_append_right _ hc)) (fun e=>yD _ wU c hc e.symm)
 refine ⟨g,⟨(hs o (List.mem_cons_self ..) (fun e=>hno (e ▸ List.mem_append_left _ wU))).trans h.opn,h.procs.same (fun c hc=>hs c (List.mem_cons_of_mem _ (List.mem_append_left _ (by unfold aZ.boxes; exact (List.mem_append_left _ hc)))) (d0 c hc _ (List.mem_append_right _ (List.mem_append_right _ (List.mem_append_right _ (List.mem_append_left _ (List.mem_cons_self ..))))))),h.aj.same (fun c hc=>hs c (List.mem_cons_of_mem _ (List.mem_append_left _ (by unfold aZ.boxes; exact (List.mem_append_right _ (List.mem_append_left _ hc))))) (d1 c hc _ (List.mem_append_right _ (List.mem_append_right _ (List.mem_append_left _ (List.mem_cons_self ..)))))),h.events.same (fun c hc=>hs c (List.mem_cons_of_mem _ (List.mem_append_left _ (by unfold aZ.boxes; exact (List.mem_append_right _ (List.mem_append_right _ (List.mem_append_left _ hc)))))) (d2 c hc _ (List.mem_append_right _ (List.mem_append_left _ (List.mem_cons_self ..))))),h.ag.same (fun c hc=>hs c (List.mem_cons_of_mem _ (List.mem_append_left _ (by unfold aZ.boxes; exact (List.mem_append_right _ (List.mem_append_right _ (List.mem_append_right _ (List.mem_append_left _ hc))))))) (d3 c hc _ (List.mem_append_left _ (List.mem_cons_self ..)))),hsh,h.ai.same (fun c hc=>hs c (List.mem_cons_of_mem _ (List.mem_append_left _ (by unfold aZ.boxes; exact (List.mem_append_right _ (List.mem_append_right _ (List.mem_append_right _ (List.mem_append_right _ (List.mem_append_right _ hc)))))))) (fun e=>d4 _ (List.mem_cons_self ..) c hc e.symm)),fun r hr=>(h.eI r hr).same fun c hc=>iH c (by unfold aZ.kids; exact (List.mem_append_left _ (List.mem_filterMap.2 ⟨r,hr,hc⟩))),fun r hr=>(List.mem_cons.1 ((lC (num:=(fun x:au=>x.id)) (x,g) S.lf).mem_iff.1 hr)).elim (fun e=>e ▸ hm.same fun c hc=>hgr.block c (hm.lt hc).2 (fun e2=>hk c hc (Option.some.inj e2 ▸ List.mem_cons_of_mem _ (List.mem_append_left _ wU)))) (fun hr=>(h.eE r hr).same fun c hc=>iH c (by unfold aZ.kids; exact (List.mem_append_right _ (List.mem_append_left _ (List.mem_filterMap.2 ⟨r,hr,hc⟩))))),fun r hr=>(h.eR r hr).same fun c hc=>iH c (by unfold aZ.kids; exact (List.mem_append_right _ (List.mem_append_right _ (List.mem_filterMap.2 ⟨r,hr,hc⟩)))),?_,h.low⟩,(Below.refl _ _).grown hgr hb fun c e=>(Option.some.inj e) ▸ h.ae.low _ (List.mem_cons_self ..)⟩
 have hp1:({ S with lf:=fc (fun x:au=>x.id) (x,g) S.lf } :aZ).boxes.Perm (g :: S.boxes):=by unfold aZ.boxes; exact (dY (dY (dY (dY ((lM (num:=(fun x:au=>x.id)) x S.q.bf g S.lf).append_right _)))))
 have hlt:=h.lt
 have hp2:(o :: (({ S with lf:=fc (fun x:au=>x.id) (x,g) S.lf } :aZ).boxes ++ ({ S with lf:=fc (fun x:au=>x.id) (x,g) S.lf } :aZ).kids)).Perm (g :: (o :: (S.boxes ++ ({ S with lf:=(x,g) :: S.lf } :aZ).kids))):=(List.Perm.cons o (hp1.append (by unfold aZ.kids; exact (List.Perm.append_left _ ((AG (N:=aC) (num:=(fun x:au=>x.id)) x g S.lf).append_right _))))).trans (List.Perm.swap g o _)
 refine hp2.nodup_iff.2 ?_
 cases hkx:aC.bt x with
 | none=>
  have e1:({ S with lf:=(x,g) :: S.lf } :aZ).kids=S.kids:=by simp [aZ.kids,kids,hkx]
  rw [e1]
  exact List.nodup_cons.2 ⟨fun hm=>by have:=hlt g hm; omega,hn⟩
 | some c=>
  have wu:(({ S with lf:=(x,g) :: S.lf } :aZ).kids).Perm (c :: S.kids):=by
   have e1:kids aC ((x,g) :: S.lf)=c :: kids aC S.lf:=by simp [kids,hkx]
   unfold aZ.kids
   show (kids aR S.lp ++ (kids aC ((x,g) :: S.lf) ++ kids aU S.lq)).Perm _
   rw [e1]
   exact dY (List.Perm.refl _)
  have hp4:(o :: (S.boxes ++ ({ S with lf:=(x,g) :: S.lf } :aZ).kids)).Perm (c :: (o :: (S.boxes ++ S.kids))):=(List.Perm.cons o (dY wu)).trans (List.Perm.swap c o _)
  have hc1:=hk c hkx
  have hc2:=(hm.lt hkx).2
  refine (List.Perm.cons g hp4).nodup_iff.2 (List.nodup_cons.2 ⟨fun hm2=> ?_,List.nodup_cons.2 ⟨hc1,hn⟩⟩)
  rcases List.mem_cons.1 hm2 with e2 | hm2
  ·omega
  ·have:=hlt g hm2
   omega
theorem cJ.IL {w w':World} {base o:Nat} {S:aZ} {x:aM} {e:Ending} (h:cJ w base o S) (hb:base≤w.heap.size) (hm:aU.cO w base x) (hk: ∀ c,aU.bt x=some c→c∉o :: (S.boxes ++ S.kids)) (hl:dD w S.q.bq (keysOf (fun x:aM=>x.id) S.lq) true x.id (cW x) 61 e w'):
  ∃ g,cJ w' base o { S with lq:=fc (fun x:aM=>x.id) (x,g) S.lq } ∧Below base w w':=by
 obtain ⟨g,hg,hsh,hgr⟩:=h.ai.lay hb hl
 have hn:=h.nodup
 obtain ⟨hno,hn2⟩:=List.nodup_cons.1 hn
 obtain ⟨hnb,hnk,yD⟩:=List.nodup_append.1 hn2
 have I3:=hnb
 unfold aZ.boxes at hnb
 obtain ⟨-,r0,d0⟩:=List.nodup_append.1 hnb
 obtain ⟨-,r1,d1⟩:=List.nodup_append.1 r0
 obtain ⟨-,r2,d2⟩:=List.nodup_append.1 r1
 obtain ⟨-,r3,d3⟩:=List.nodup_append.1 r2
 obtain ⟨-,r4,d4⟩:=List.nodup_append.1 r3
 clear r4
 have hs: ∀ c∈o :: (S.boxes ++ S.kids),c≠S.q.bq→w'.heap[c]? =w.heap[c]? :=fun c hc hne=>hgr.block c (h.lt c hc) (fun e=>hne (Option.some.inj e))
 have wU:S.q.bq∈S.boxes:=by unfold aZ.boxes; exact (List.mem_append_right _ (List.mem_append_right _ (List.mem_append_right _ (List.mem_append_right _ (List.mem_append_right _ (List.mem_cons_self ..))))))
 have iH: ∀ c∈S.kids,w'.heap[c]? =w.heap[c]? :=fun c hc=>hs c (List.mem_cons_of_mem _ (List.mem_append_right _ hc)) (fun e=>yD _ wU c hc e.symm)
 refine ⟨g,⟨(hs o (List.mem_cons_self ..) (fun e=>hno (e ▸ List.mem_append_left _ wU))).trans h.opn,h.procs.same (fun c hc=>hs c (List.mem_cons_of_mem _ (List.mem_append_left _ (by unfold aZ.boxes; exact (List.mem_append_left _ hc)))) (d0 c hc _ (List.mem_append_right _ (List.mem_append_right _ (List.mem_append_right _ (List.mem_append_right _ (List.mem_cons_self ..))))))),h.aj.same (fun c hc=>hs c (List.mem_cons_of_mem _ (List.mem_append_left _ (by unfold aZ.boxes; exact (List.mem_append_right _ (List.mem_append_left _ hc))))) (d1 c hc _ (List.mem_append_right _ (List.mem_append_right _ (List.mem_append_right _ (List.mem_cons_self ..)))))),h.events.same (fun c hc=>hs c (List.mem_cons_of_mem _ (List.mem_append_left _ (by unfold aZ.boxes; exact (List.mem_append_right _ (List.mem_append_right _ (List.mem_append_left _ hc)))))) (d2 c hc _ (List.mem_append_right _ (List.mem_append_right _ (List.mem_cons_self ..))))),h.ag.same (fun c hc=>hs c (List.mem_cons_of_mem _ (List.mem_append_left _ (by unfold aZ.boxes; exact (List.mem_append_right _ (List.mem_append_right _ (List.mem_append_right _ (List.mem_append_left _ hc))))))) (d3 c hc _ (List.mem_append_right _ (List.mem_cons_self ..)))),h.ae.same (fun c hc=>hs c (List.mem_cons_of_mem _ (List.mem_append_left _ (by unfold aZ.boxes; exact (List.mem_append_right _ (List.mem_append_right _ (List.mem_append_right _ (List.mem_append_right _ (List.mem_append_left _ hc)))))))) (d4 c hc _ (List.mem_cons_self ..))),hsh,fun r hr=>(h.eI r hr).same fun c hc=>iH c (by unfold aZ.kids; exact (List.mem_append_left _ (List.mem_filterMap.2 ⟨r,hr,hc⟩))),fun r hr=>(h.eE r hr).same fun c hc=>iH c (by unfold aZ.kids; exact (List.mem_append_right _ (List.mem_append_left _ (List.mem_filterMap.2 ⟨r,hr,hc⟩)))),fun r hr=>(List.mem_cons.1 ((lC (num:=(fun x:aM=>x.id)) (x,g) S.lq).mem_iff.1 hr)).elim (fun e=>e ▸ hm.same fun c hc=>hgr.block c (hm.lt hc).2 (fun e2=>hk c hc (Option.some.inj e2 ▸ List.mem_cons_of_mem _ (List.mem_append_left _ wU)))) (fun hr=>(h.eR r hr).same fun c hc=>iH c (by unfold aZ.kids; exact (List.mem_append_right _ (List.mem_append_right _ (List.mem_filterMap.2 ⟨r,hr,hc⟩))))),?_,h.low⟩,(Below.refl _ _).grown hgr hb fun c e=>(Option.some.inj e) ▸ h.ai.low _ (List.mem_cons_self ..)⟩
 have hp1:({ S with lq:=fc (fun x:aM=>x.id) (x,g) S.lq } :aZ).boxes.Perm (g :: S.boxes):=by unfold aZ.boxes; exact (dY (dY (dY (dY (dY (lM (num:=(fun x:aM=>x.id)) x S.q.bq g S.lq))))))
 have hlt:=h.lt
 have hp2:(o :: (({ S with lq:=fc (fun x:aM=>x.id) (x,g) S.lq } :aZ).boxes ++ ({ S with lq:=fc (fun x:aM=>x.id) (x,g) S.lq } :aZ).kids)).Perm (g :: (o :: (S.boxes ++ ({ S with lq:=(x,g) :: S.lq } :aZ).kids))):=(List.Perm.cons o (hp1.append (by unfold aZ.kids; exact (List.Perm.append_left _ (List.Perm.append_left _ (AG (N:=aU) (num:=(fun x:aM=>x.id)) x g S.lq)))))).trans (List.Perm.swap g o _)
 refine hp2.nodup_iff.2 ?_
 cases hkx:aU.bt x with
 | none=>
  have e1:({ S with lq:=(x,g) :: S.lq } :aZ).kids=S.kids:=by simp [aZ.kids,kids,hkx]
  rw [e1]
  exact List.nodup_cons.2 ⟨fun hm=>by have:=hlt g hm; omega,hn⟩
 | some c=>
  have wu:(({ S with lq:=(x,g) :: S.lq } :aZ).kids).Perm (c :: S.kids):=by
   have e1:kids aU ((x,g) :: S.lq)=c :: kids aU S.lq:=by simp [kids,hkx]
   unfold aZ.kids
   show (kids aR S.lp ++ (kids aC S.lf ++ kids aU ((x,g) :: S.lq))).Perm _
   rw [e1]
   exact dY (dY (List.Perm.refl _))
  have hp4:(o :: (S.boxes ++ ({ S with lq:=(x,g) :: S.lq } :aZ).kids)).Perm (c :: (o :: (S.boxes ++ S.kids))):=(List.Perm.cons o (dY wu)).trans (List.Perm.swap c o _)
  have hc1:=hk c hkx
  have hc2:=(hm.lt hkx).2
  refine (List.Perm.cons g hp4).nodup_iff.2 (List.nodup_cons.2 ⟨fun hm2=> ?_,List.nodup_cons.2 ⟨hc1,hn⟩⟩)
  rcases List.mem_cons.1 hm2 with e2 | hm2
  ·omega
  ·have:=hlt g hm2
   omega
end Go.Proofs.YtkbcplnlehdjfaaGreat
