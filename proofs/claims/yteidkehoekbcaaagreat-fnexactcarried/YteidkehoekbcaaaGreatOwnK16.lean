/- What the proof leans on, part 16. -/
import Derived.Test.YteidkehoekbcaaaGreatOwnK14
set_option maxRecDepth 100000
set_option maxHeartbeats 8000000
open Go.Proofs.Tryz renaming func184->QF,ntmps184->QG,prog->J3
open Go.RowKit.Below renaming refl->Kp

namespace Go.Proofs.YteidkehoekbcaaaGreat
open Go.RowKit Go.Maps
attribute [local go_sem ↓] Go.wp_at_zero Go.wp_at_succ
theorem gg {W:World} {X:Nat} {x:aM} (h:W.heap[X]? =some (.cells (cW x) 85 (0,0))):W.cell? ⟨X,1,none⟩=some (.bool x.I)∧W.cell? ⟨X,2,none⟩=some (.bool x.Mf):=by
 simp [World.cell?,h,cW]
theorem TY (X Y:Nat) (x y:aM) (w:World) (hx:w.heap[X]? =some (.cells (cW x) 85 (0,0))) (hy:w.heap[Y]? =some (.cells (cW y) 85 (0,0))):
  Calls J3 185 #[.pointer (some ⟨X,0,none⟩),.pointer (some ⟨Y,0,none⟩)] w fun e w'=>e= .returned (.bool (x.I && !y.I && (x.Mf == y.Mf)))∧Below w.heap.size w w':=by
 have S:Hid (w.heap[X]? =some (.cells (cW x) 85 (0,0))∧w.heap[Y]? =some (.cells (cW y) 85 (0,0))∧Below w.heap.size w w):=⟨hx,hy,Kp _ _⟩
 clear hx hy
 go_enter Tryz.func185,Tryz.ntmps185
 go_upto_region 1 with fail;refine aT (fun W=>W.heap[X]? =some (.cells (cW x) 85 (0,0))∧W.heap[Y]? =some (.cells (cW y) 85 (0,0))∧Below w.heap.size w W) (by kernel_rfl) ⟨S.I.1,S.I.2.1,S.I.2.2.drew⟩ ?_;cases h1:x.I
 ·skip
  iterate 5 (refine yl (v:= ?_) ?_ ?_; rotate_left; (intro w0 hS0; obtain ⟨a1,a2⟩:=gg hS0.1; obtain ⟨b1,b2⟩:=gg hS0.2.1; go_simp; try with_reducible rfl); simp only [pt,sb,s0,s1])
  iterate 5 (refine nl ?_; simp only [pt,sb,s0,s1])
  iterate 2 (refine yl (v:= ?_) ?_ ?_; rotate_left; (intro w0 hS0; obtain ⟨a1,a2⟩:=gg hS0.1; obtain ⟨b1,b2⟩:=gg hS0.2.1; go_simp; try with_reducible rfl); simp only [pt,sb,s0,s1])
  iterate 9 (refine nl ?_; simp only [pt,sb,s0,s1])
  iterate 2 (refine yl (v:= ?_) ?_ ?_; rotate_left; (intro w0 hS0; obtain ⟨a1,a2⟩:=gg hS0.1; obtain ⟨b1,b2⟩:=gg hS0.2.1; go_simp; try with_reducible rfl); simp only [pt,sb,s0,s1])
  refine bk (by kernel_rfl) (fun A3 NO=> ?_) _;go_wp2;go_ret;exact ⟨al (by simp [h1]),NO.2.2⟩
 cases h2:y.I
 case true=>
  iterate 12 (refine yl (v:= ?_) ?_ ?_; rotate_left; (intro w0 hS0; obtain ⟨a1,a2⟩:=gg hS0.1; obtain ⟨b1,b2⟩:=gg hS0.2.1; go_simp; try with_reducible rfl); simp only [pt,sb,s0,s1])
  iterate 9 (refine nl ?_; simp only [pt,sb,s0,s1])
  iterate 2 (refine yl (v:= ?_) ?_ ?_; rotate_left; (intro w0 hS0; obtain ⟨a1,a2⟩:=gg hS0.1; obtain ⟨b1,b2⟩:=gg hS0.2.1; go_simp; try with_reducible rfl); simp only [pt,sb,s0,s1])
  refine bk (by kernel_rfl) (fun A3 NO=> ?_) _;go_wp2;go_ret;exact ⟨al (by simp [h1,h2]),NO.2.2⟩
 iterate 23 (refine yl (v:= ?_) ?_ ?_; rotate_left; (intro w0 hS0; obtain ⟨a1,a2⟩:=gg hS0.1; obtain ⟨b1,b2⟩:=gg hS0.2.1; go_simp; try with_reducible rfl); simp only [pt,sb,s0,s1])
 refine bk (by kernel_rfl) (fun A3 NO=> ?_) _;go_wp2;go_ret;exact ⟨al (by simp [h1,h2]),NO.2.2⟩
structure KMap (w:World) (K b:Nat) (l:List (aZ × Nat)):Prop where
 cell:w.cell? ⟨K,63,none⟩=some (.map (some b))
 map:cF w b (l.map fun p=>(p.1.q.id,p.2))
 part: ∀ p∈l,∃ base,cJ w base p.2 p.1
def kt (l:List (aZ × Nat)) (part id:Int):Option Nat:=match l.find? (fun p=>p.1.q.id == part) with
 | none=>none
 | some p=>cz (RW (fun x:aM=>x.id) p.1.lq) id
theorem Tf (l:List (aZ × Nat)) (k:Int):cz (l.map fun p=>(p.1.q.id,p.2)) k=(l.find? (fun p=>p.1.q.id == k)).map (·.2):=by
 unfold cz;rw [List.find?_map,Option.map_map];rfl
theorem TQ (w:World):(zeroValue 97).run J3 w= .ok (.pointer none) w:=by kernel_rfl
theorem TJ (w:World):(zeroValue 203).run J3 w= .ok (.pointer none) w:=by kernel_rfl
theorem TP (K b:Nat) (l:List (aZ × Nat)) (part id:Int) (w:World) (h:KMap w K b l) (hp:(Lit.int .i64 part).wf=true) (hi:(Lit.int .i64 id).wf=true):
  Calls J3 184 #[.pointer (some ⟨K,0,none⟩),.int .i64 part,.int .i64 id] w fun e w'=>e= .returned (.tuple #[qz (kt l part id),.bool (kt l part id).isSome])∧Below w.heap.size w w':=by
 have c0:=h.cell;have hlk:=h.map.look Tryz.underlying104 (TQ w) hp true;rw [Tf] at hlk;simp only [if_true] at hlk;cases hf:l.find? (fun p=>p.1.q.id == part) with
 | none=>
  have HP:Hid (kt l part id=none):=by show kt _ _ _=_; unfold kt; rw [hf]
  rw [hf] at hlk;simp only [Option.map_none,Option.isSome_none,qz] at hlk;clear h hp hi hf
  go_enter QF,QG
  go_wp2;go_ret2;exact ⟨by rw [HP.I]; rfl,Kp _ _⟩
 | some p=>
  have HP:Hid (kt l part id=cz (RW (fun x:aM=>x.id) p.1.lq) id):=by show kt _ _ _=_; unfold kt; rw [hf]
  rw [hf] at hlk;simp only [Option.map_some,Option.isSome_some,qz,dt] at hlk;obtain ⟨base,ho⟩:=h.part p (List.mem_of_find?_eq_some hf);have c1:w.cell? ⟨p.2,13,none⟩=some (.map (some p.1.q.bq)):=ho.opn.cell 13;have hlk2:=ho.ai.map.look Tryz.underlying176 (TJ w) hi true;simp only [if_true] at hlk2;generalize cz (RW (fun x:aM=>x.id) p.1.lq) id=r at *;clear h hp hi hf ho
  go_enter QF,QG
  go_wp2;go_ret2;exact ⟨by rw [HP.I]; rfl,Kp _ _⟩
end Go.Proofs.YteidkehoekbcaaaGreat
