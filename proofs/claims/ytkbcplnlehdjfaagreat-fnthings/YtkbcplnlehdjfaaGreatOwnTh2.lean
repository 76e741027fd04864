/- What the proof leans on, part 2: TdPart~x, OpenF~x, WithP~x, WithO~x, WpBuffer~x, WpSem~x, WpEvent~x, WpBoard~x, WpPort~x. -/
import Derived.Test.YtkbcplnlehdjfaaGreatOwnB18
import Derived.Test.YtkbcplnlehdjfaaGreatOwnB19
import Derived.Test.YtkbcplnlehdjfaaGreatOwnB20
import Derived.Test.YtkbcplnlehdjfaaGreatOwnB21
import Derived.Test.YtkbcplnlehdjfaaGreatOwnB23
import Derived.Test.YtkbcplnlehdjfaaGreatOwnB24
import Derived.Test.YtkbcplnlehdjfaaGreatOwnTh0
import Derived.Test.YtkbcplnlehdjfaaGreatOwnTh1
import Derived.Deep.RegionHeld
import Derived.Laws.CopyOwn
set_option maxRecDepth 100000
set_option maxHeartbeats 8000000

namespace Go.Proofs.YtkbcplnlehdjfaaGreat
open Go.RowKit Go.Maps
attribute [local go_sem ↓] Go.wp_at_zero Go.wp_at_succ
theorem Dv {kp kf kq r1 r2 r3 r4 r5 r6:List Nat} {N n1 n2 n3 n4 n5 n6:Nat} (hk:(kp ++ (kf ++ kq)).Nodup) (hkl: ∀ g∈kp ++ (kf ++ kq),g < N) (h1:nU N n1 r1) (h2:nU n1 n2 r2) (h3:nU n2 n3 r3) (h4:nU n3 n4 r4) (h5:nU n4 n5 r5) (h6:nU n5 n6 r6)
  (e:N≤n1∧n1≤n2∧n2≤n3∧n3≤n4∧n4≤n5∧n5≤n6):(r1 ++ (kp ++ (r2 ++ (r3 ++ (r4 ++ (r5 ++ (kf ++ (r6 ++ kq)))))))).Nodup:=by
 have hp:(r1 ++ (kp ++ (r2 ++ (r3 ++ (r4 ++ (r5 ++ (kf ++ (r6 ++ kq)))))))).Perm ((kp ++ (kf ++ kq)) ++ (r1 ++ (r2 ++ (r3 ++ (r4 ++ (r5 ++ r6)))))):=by
  rw [List.perm_iff_count]
  intro x
  simp only [List.count_append]
  omega
 rw [hp.nodup_iff,List.nodup_append]
 have hr:nU N n6 (r1 ++ (r2 ++ (r3 ++ (r4 ++ (r5 ++ r6))))):=h1.append (h2.append (h3.append (h4.append (h5.append h6 (by omega) (by omega) (by omega)) (by omega) (by omega) (by omega)) (by omega) (by omega) (by omega)) (by omega) (by omega) (by omega)) (by omega) (by omega) (by omega)
 refine ⟨hk,hr.1,fun a ha b hb e=> ?_⟩
 have:=hkl a ha
 have:=(hr.2 b hb).1
 omega
theorem px {w:World} {base n size cap:Nat} {e:TypeId} {a:Option Addr} {xs:List Value} (h:w.ownsRow base e size (.slice a n cap) n xs):nU base w.heap.size (blk a):=⟨fN a,fun _ hg=>cf h hg⟩
structure aZ.Fits (S:aZ):Prop where
 dl:S.lp.length≤1048576
 Jl: ∀ p∈keysOf (fun x:ao=>x.id) S.lp,(Lit.int .i64 p.1).wf=true
 fx:S.ls.length≤1048576
 wSem: ∀ p∈keysOf (fun x:bD=>x.id) S.ls,(Lit.int .i64 p.1).wf=true
 cD:S.le.length≤1048576
 G4: ∀ p∈keysOf (fun x:aB=>x.id) S.le,(Lit.int .i64 p.1).wf=true
 cC:S.lb.length≤1048576
 FP: ∀ p∈keysOf (fun x:az=>x.id) S.lb,(Lit.int .i64 p.1).wf=true
 cb:S.lf.length≤1048576
 DW: ∀ p∈keysOf (fun x:au=>x.id) S.lf,(Lit.int .i64 p.1).wf=true
 dH:S.lq.length≤1048576
 Jz: ∀ p∈keysOf (fun x:aM=>x.id) S.lq,(Lit.int .i64 p.1).wf=true
def GR (o:Nat) (S:aZ) (w':World):Prop:=w'.cell? ⟨o,0,none⟩=some (.int .i64 S.q.id)∧w'.cell? ⟨o,1,none⟩=some (.int .i64 S.q.next)∧w'.cell? ⟨o,2,none⟩=some (.int .i64 6)∧w'.cell? ⟨o,3,none⟩=some (.map (some S.q.bp))∧w'.cell? ⟨o,4,none⟩=some (.int .i64 5)∧w'.cell? ⟨o,5,none⟩=some (.map (some S.q.bs))∧w'.cell? ⟨o,6,none⟩=some (.int .i64 5)∧w'.cell? ⟨o,7,none⟩=some (.map (some S.q.be))∧w'.cell? ⟨o,8,none⟩=some (.int .i64 5)∧w'.cell? ⟨o,9,none⟩=some (.map (some S.q.bb))∧w'.cell? ⟨o,10,none⟩=some (.int .i64 5)∧w'.cell? ⟨o,11,none⟩=some (.map (some S.q.bf))∧w'.cell? ⟨o,12,none⟩=some (.int .i64 5)∧w'.cell? ⟨o,13,none⟩=some (.map (some S.q.bq))
theorem kP {o:Nat} {S:aZ} {w:World} (h:fa w o S.q):GR o S w:=⟨h.cell 0,h.cell 1,h.cell 2,h.cell 3,h.cell 4,h.cell 5,h.cell 6,h.cell 7,h.cell 8,h.cell 9,h.cell 10,h.cell 11,h.cell 12,h.cell 13⟩
def Hc (w:World) (base:Nat) (v:aE) (e:Ending) (w':World):Prop:= ∃ r:af,e= .returned (.agg r.cells)∧ap w' base r∧r.pure=v∧Below w.heap.size w w'
theorem jR (o base:Nat) (S:aZ) (w:World) (h:cJ w base o S) (hf:S.Fits):Calls Tryz.prog 85 #[.pointer (some ⟨o,0,none⟩)] w fun e w'=>Hc w base S.pure e w':=by
 have hb0:Below w.heap.size w (w.alloc (.cells ar 32)):=(Below.refl _ _).alloc (Nat.le_refl _) _
 have HZ:Hid (cJ w base o S∧S.Fits∧Below w.heap.size w (w.alloc (.cells ar 32)).drew∧(w.alloc (.cells ar 32)).drew.heap[w.heap.size]? =some (.cells ar 32 (0,0))∧w.heap.size < (w.alloc (.cells ar 32)).drew.heap.size):=⟨h,hf,hb0.drew,heap_alloc_new _ _,by simp⟩
 have HS:Hid (GR o S (w.alloc (.cells ar 32)).drew):=kP (h.opn.below hb0.drew)
 clear h hf hb0
 go_enter Tryz.func85,Tryz.ntmps85
 go_wp2_with fail
 generalize w.alloc (.cells ar 32)=W at *
 refine wp_region_held_drew (S:=GR o S) (by kernel_rfl) HS.out (fun hHeld=> ?_)
 refine tk 0 (v:= ?_) ?_ hHeld ?_; rotate_left; (intro w0 hS0; obtain ⟨q0,q1,q2,q3,q4,q5,q6,q7,q8,q9,kY,kV,lB,lz⟩:=hS0; go_simp; try with_reducible rfl); simp only [pt,sb,s0,s1]
 refine tk 1 (v:= ?_) ?_ hHeld ?_; rotate_left; (intro w0 hS0; obtain ⟨q0,q1,q2,q3,q4,q5,q6,q7,q8,q9,kY,kV,lB,lz⟩:=hS0; go_simp; try with_reducible rfl); simp only [pt,sb,s0,s1]
 refine tk 2 (v:= ?_) ?_ hHeld ?_; rotate_left; (intro w0 hS0; obtain ⟨q0,q1,q2,q3,q4,q5,q6,q7,q8,q9,kY,kV,lB,lz⟩:=hS0; go_simp; try with_reducible rfl); simp only [pt,sb,s0,s1]
 refine tk 3 (v:= ?_) ?_ hHeld ?_; rotate_left; (intro w0 hS0; obtain ⟨q0,q1,q2,q3,q4,q5,q6,q7,q8,q9,kY,kV,lB,lz⟩:=hS0; go_simp; try with_reducible rfl); simp only [pt,sb,s0,s1]
 refine tk 4 (v:= ?_) ?_ hHeld ?_; rotate_left; (intro w0 hS0; obtain ⟨q0,q1,q2,q3,q4,q5,q6,q7,q8,q9,kY,kV,lB,lz⟩:=hS0; go_simp; try with_reducible rfl); simp only [pt,sb,s0,s1]
 refine tk 5 (v:= ?_) ?_ hHeld ?_; rotate_left; (intro w0 hS0; obtain ⟨q0,q1,q2,q3,q4,q5,q6,q7,q8,q9,kY,kV,lB,lz⟩:=hS0; go_simp; try with_reducible rfl); simp only [pt,sb,s0,s1]
 refine tk 6 (v:= ?_) ?_ hHeld ?_; rotate_left; (intro w0 hS0; obtain ⟨q0,q1,q2,q3,q4,q5,q6,q7,q8,q9,kY,kV,lB,lz⟩:=hS0; go_simp; try with_reducible rfl); simp only [pt,sb,s0,s1]
 refine tk 7 (v:= ?_) ?_ hHeld ?_; rotate_left; (intro w0 hS0; obtain ⟨q0,q1,q2,q3,q4,q5,q6,q7,q8,q9,kY,kV,lB,lz⟩:=hS0; go_simp; try with_reducible rfl); simp only [pt,sb,s0,s1]
 refine tk 8 (v:= ?_) ?_ hHeld ?_; rotate_left; (intro w0 hS0; obtain ⟨q0,q1,q2,q3,q4,q5,q6,q7,q8,q9,kY,kV,lB,lz⟩:=hS0; go_simp; try with_reducible rfl); simp only [pt,sb,s0,s1]
 refine tk 9 (v:= ?_) ?_ hHeld ?_; rotate_left; (intro w0 hS0; obtain ⟨q0,q1,q2,q3,q4,q5,q6,q7,q8,q9,kY,kV,lB,lz⟩:=hS0; go_simp; try with_reducible rfl); simp only [pt,sb,s0,s1]
 refine tk 10 (v:= ?_) ?_ hHeld ?_; rotate_left; (intro w0 hS0; obtain ⟨q0,q1,q2,q3,q4,q5,q6,q7,q8,q9,kY,kV,lB,lz⟩:=hS0; go_simp; try with_reducible rfl); simp only [pt,sb,s0,s1]
 refine tk 11 (v:= ?_) ?_ hHeld ?_; rotate_left; (intro w0 hS0; obtain ⟨q0,q1,q2,q3,q4,q5,q6,q7,q8,q9,kY,kV,lB,lz⟩:=hS0; go_simp; try with_reducible rfl); simp only [pt,sb,s0,s1]
 refine tk 13 (v:= ?_) ?_ hHeld ?_; rotate_left; (intro w0 hS0; obtain ⟨q0,q1,q2,q3,q4,q5,q6,q7,q8,q9,kY,kV,lB,lz⟩:=hS0; go_simp; try with_reducible rfl); simp only [pt,sb,s0,s1]
 refine tk 14 (v:= ?_) ?_ hHeld ?_; rotate_left; (intro w0 hS0; obtain ⟨q0,q1,q2,q3,q4,q5,q6,q7,q8,q9,kY,kV,lB,lz⟩:=hS0; go_simp; try with_reducible rfl); simp only [pt,sb,s0,s1]
 refine tk 15 (v:= ?_) ?_ hHeld ?_; rotate_left; (intro w0 hS0; obtain ⟨q0,q1,q2,q3,q4,q5,q6,q7,q8,q9,kY,kV,lB,lz⟩:=hS0; go_simp; try with_reducible rfl); simp only [pt,sb,s0,s1]
 refine tk 16 (v:= ?_) ?_ hHeld ?_; rotate_left; (intro w0 hS0; obtain ⟨q0,q1,q2,q3,q4,q5,q6,q7,q8,q9,kY,kV,lB,lz⟩:=hS0; go_simp; try with_reducible rfl); simp only [pt,sb,s0,s1]
 refine tk 18 (v:= ?_) ?_ hHeld ?_; rotate_left; (intro w0 hS0; obtain ⟨q0,q1,q2,q3,q4,q5,q6,q7,q8,q9,kY,kV,lB,lz⟩:=hS0; go_simp; try with_reducible rfl); simp only [pt,sb,s0,s1]
 refine tk 19 (v:= ?_) ?_ hHeld ?_; rotate_left; (intro w0 hS0; obtain ⟨q0,q1,q2,q3,q4,q5,q6,q7,q8,q9,kY,kV,lB,lz⟩:=hS0; go_simp; try with_reducible rfl); simp only [pt,sb,s0,s1]
 refine tk 20 (v:= ?_) ?_ hHeld ?_; rotate_left; (intro w0 hS0; obtain ⟨q0,q1,q2,q3,q4,q5,q6,q7,q8,q9,kY,kV,lB,lz⟩:=hS0; go_simp; try with_reducible rfl); simp only [pt,sb,s0,s1]
 refine tk 21 (v:= ?_) ?_ hHeld ?_; rotate_left; (intro w0 hS0; obtain ⟨q0,q1,q2,q3,q4,q5,q6,q7,q8,q9,kY,kV,lB,lz⟩:=hS0; go_simp; try with_reducible rfl); simp only [pt,sb,s0,s1]
 refine tk 23 (v:= ?_) ?_ hHeld ?_; rotate_left; (intro w0 hS0; obtain ⟨q0,q1,q2,q3,q4,q5,q6,q7,q8,q9,kY,kV,lB,lz⟩:=hS0; go_simp; try with_reducible rfl); simp only [pt,sb,s0,s1]
 refine tk 24 (v:= ?_) ?_ hHeld ?_; rotate_left; (intro w0 hS0; obtain ⟨q0,q1,q2,q3,q4,q5,q6,q7,q8,q9,kY,kV,lB,lz⟩:=hS0; go_simp; try with_reducible rfl); simp only [pt,sb,s0,s1]
 refine tk 25 (v:= ?_) ?_ hHeld ?_; rotate_left; (intro w0 hS0; obtain ⟨q0,q1,q2,q3,q4,q5,q6,q7,q8,q9,kY,kV,lB,lz⟩:=hS0; go_simp; try with_reducible rfl); simp only [pt,sb,s0,s1]
 refine tk 26 (v:= ?_) ?_ hHeld ?_; rotate_left; (intro w0 hS0; obtain ⟨q0,q1,q2,q3,q4,q5,q6,q7,q8,q9,kY,kV,lB,lz⟩:=hS0; go_simp; try with_reducible rfl); simp only [pt,sb,s0,s1]
 refine tk 28 (v:= ?_) ?_ hHeld ?_; rotate_left; (intro w0 hS0; obtain ⟨q0,q1,q2,q3,q4,q5,q6,q7,q8,q9,kY,kV,lB,lz⟩:=hS0; go_simp; try with_reducible rfl); simp only [pt,sb,s0,s1]
 refine tk 29 (v:= ?_) ?_ hHeld ?_; rotate_left; (intro w0 hS0; obtain ⟨q0,q1,q2,q3,q4,q5,q6,q7,q8,q9,kY,kV,lB,lz⟩:=hS0; go_simp; try with_reducible rfl); simp only [pt,sb,s0,s1]
 refine tk 30 (v:= ?_) ?_ hHeld ?_; rotate_left; (intro w0 hS0; obtain ⟨q0,q1,q2,q3,q4,q5,q6,q7,q8,q9,kY,kV,lB,lz⟩:=hS0; go_simp; try with_reducible rfl); simp only [pt,sb,s0,s1]
 refine tk 31 (v:= ?_) ?_ hHeld ?_; rotate_left; (intro w0 hS0; obtain ⟨q0,q1,q2,q3,q4,q5,q6,q7,q8,q9,kY,kV,lB,lz⟩:=hS0; go_simp; try with_reducible rfl); simp only [pt,sb,s0,s1]
 refine tk 33 (v:= ?_) ?_ hHeld ?_; rotate_left; (intro w0 hS0; obtain ⟨q0,q1,q2,q3,q4,q5,q6,q7,q8,q9,kY,kV,lB,lz⟩:=hS0; go_simp; try with_reducible rfl); simp only [pt,sb,s0,s1]
 refine tk 34 (v:= ?_) ?_ hHeld ?_; rotate_left; (intro w0 hS0; obtain ⟨q0,q1,q2,q3,q4,q5,q6,q7,q8,q9,kY,kV,lB,lz⟩:=hS0; go_simp; try with_reducible rfl); simp only [pt,sb,s0,s1]
 refine tk 35 (v:= ?_) ?_ hHeld ?_; rotate_left; (intro w0 hS0; obtain ⟨q0,q1,q2,q3,q4,q5,q6,q7,q8,q9,kY,kV,lB,lz⟩:=hS0; go_simp; try with_reducible rfl); simp only [pt,sb,s0,s1]
 refine tk 36 (v:= ?_) ?_ hHeld ?_; rotate_left; (intro w0 hS0; obtain ⟨q0,q1,q2,q3,q4,q5,q6,q7,q8,q9,kY,kV,lB,lz⟩:=hS0; go_simp; try with_reducible rfl); simp only [pt,sb,s0,s1]
 clear HS
 generalize hWd:W.drew=W0 at *
 clear hWd
 refine wpAnyH_ready (rs:= [12]) (by kernel_rfl) (by simp) ?_
 refine AllReadyH.cons rfl (fun K hK=> ?_) AllReadyH.nil
 simp only [List.getElem_toArray,List.getElem_cons_zero,List.getElem_cons_succ]
 rw [if_pos (by rfl)]
 go_wp2_with fail
 refine (zj 6 base S.q.bp S.lp W0 (HZ.out.1.procs.below HZ.out.2.2.1) HZ.out.2.1.dl HZ.out.2.1.Jl).mono ?_
 rintro e W1 ⟨a1,c1,rfl,hown,hb⟩
 have wm:Hid (nU W0.heap.size W1.heap.size (blk a1)∧W0.heap.size≤W1.heap.size):=⟨px hown,hb.size⟩
 have HY:Hid (W1.ownsRow W0.heap.size 43 12 (.slice a1 (S.lp.map (·.1)).length c1) (S.lp.map (·.1)).length (bg.flat (S.lp.map (·.1)))∧W0.heap.size≤W1.heap.size):=⟨hown,hb.size⟩
 have HR:=HY
 clear HY
 have iP:Hid (cJ w base o S∧S.Fits∧Below w.heap.size w W1∧W1.heap[w.heap.size]? =some (.cells ar 32 (0,0))∧w.heap.size < W0.heap.size):=⟨HZ.out.1,HZ.out.2.1,HZ.out.2.2.1.trans (hb.mono HZ.out.2.2.1.size),(hb.block _ (Array.getElem?_eq_some_iff.1 HZ.out.2.2.2.1).1).trans HZ.out.2.2.2.1,HZ.out.2.2.2.2⟩
 clear HZ hown hb
 have HZ:=iP
 clear iP hHeld
 refine hK.out _ _ (kP (HZ.out.1.opn.below HZ.out.2.2.1)) (fun hHeld=> ?_)
 clear hK K
 try simp only [List.getElem_toArray,List.getElem_cons_zero,List.getElem_cons_succ,Act.put,List.setIfInBounds_toArray,List.set_cons_zero,List.set_cons_succ]
 refine wpAnyH_ready (rs:= [17]) (by kernel_rfl) (by simp) ?_
 refine AllReadyH.cons rfl (fun K hK=> ?_) AllReadyH.nil
 simp only [List.getElem_toArray,List.getElem_cons_zero,List.getElem_cons_succ]
 rw [if_pos (by rfl)]
 go_wp2_with fail
 refine (AN 5 base S.q.bs S.ls W1 (HZ.out.1.aj.below HZ.out.2.2.1) HZ.out.2.1.fx HZ.out.2.1.wSem).mono ?_
 rintro e W2 ⟨a2,c2,rfl,hown,hb⟩
 have xD:Hid (nU W1.heap.size W2.heap.size (blk a2)∧W1.heap.size≤W2.heap.size):=⟨px hown,hb.size⟩
 have HY:Hid (W2.ownsRow W0.heap.size 43 12 (.slice a1 (S.lp.map (·.1)).length c1) (S.lp.map (·.1)).length (bg.flat (S.lp.map (·.1)))∧W2.ownsRow W1.heap.size 49 3 (.slice a2 (S.ls.map (·.1)).length c2) (S.ls.map (·.1)).length (dm.flat (S.ls.map (·.1)))∧W0.heap.size≤W1.heap.size∧W1.heap.size≤W2.heap.size):=⟨cR HR.out.1 hb,hown,HR.out.2,hb.size⟩
 clear HR
 have HR:=HY
 clear HY
 have iP:Hid (cJ w base o S∧S.Fits∧Below w.heap.size w W2∧W2.heap[w.heap.size]? =some (.cells ar 32 (0,0))∧w.heap.size < W0.heap.size):=⟨HZ.out.1,HZ.out.2.1,HZ.out.2.2.1.trans (hb.mono HZ.out.2.2.1.size),(hb.block _ (Array.getElem?_eq_some_iff.1 HZ.out.2.2.2.1).1).trans HZ.out.2.2.2.1,HZ.out.2.2.2.2⟩
 clear HZ hown hb
 have HZ:=iP
 clear iP hHeld
 refine hK.out _ _ (kP (HZ.out.1.opn.below HZ.out.2.2.1)) (fun hHeld=> ?_)
 clear hK K
 try simp only [List.getElem_toArray,List.getElem_cons_zero,List.getElem_cons_succ,Act.put,List.setIfInBounds_toArray,List.set_cons_zero,List.set_cons_succ]
 refine wpAnyH_ready (rs:= [22]) (by kernel_rfl) (by simp) ?_
 refine AllReadyH.cons rfl (fun K hK=> ?_) AllReadyH.nil
 simp only [List.getElem_toArray,List.getElem_cons_zero,List.getElem_cons_succ]
 rw [if_pos (by rfl)]
 go_wp2_with fail
 refine (wN 5 base S.q.be S.le W2 (HZ.out.1.events.below HZ.out.2.2.1) HZ.out.2.1.cD HZ.out.2.1.G4).mono ?_
 rintro e W3 ⟨a3,c3,rfl,hown,hb⟩
 have Fz:Hid (nU W2.heap.size W3.heap.size (blk a3)∧W2.heap.size≤W3.heap.size):=⟨px hown,hb.size⟩
 have HY:Hid (W3.ownsRow W0.heap.size 43 12 (.slice a1 (S.lp.map (·.1)).length c1) (S.lp.map (·.1)).length (bg.flat (S.lp.map (·.1)))∧W3.ownsRow W1.heap.size 49 3 (.slice a2 (S.ls.map (·.1)).length c2) (S.ls.map (·.1)).length (dm.flat (S.ls.map (·.1)))∧W3.ownsRow W2.heap.size 138 2 (.slice a3 (S.le.map (·.1)).length c3) (S.le.map (·.1)).length (bJ.flat (S.le.map (·.1)))∧W0.heap.size≤W1.heap.size∧W1.heap.size≤W2.heap.size∧W2.heap.size≤W3.heap.size):=⟨cR HR.out.1 hb,cR HR.out.2.1 hb,hown,HR.out.2.2.1,HR.out.2.2.2,hb.size⟩
 clear HR
 have HR:=HY
 clear HY
 have iP:Hid (cJ w base o S∧S.Fits∧Below w.heap.size w W3∧W3.heap[w.heap.size]? =some (.cells ar 32 (0,0))∧w.heap.size < W0.heap.size):=⟨HZ.out.1,HZ.out.2.1,HZ.out.2.2.1.trans (hb.mono HZ.out.2.2.1.size),(hb.block _ (Array.getElem?_eq_some_iff.1 HZ.out.2.2.2.1).1).trans HZ.out.2.2.2.1,HZ.out.2.2.2.2⟩
 clear HZ hown hb
 have HZ:=iP
 clear iP hHeld
 refine hK.out _ _ (kP (HZ.out.1.opn.below HZ.out.2.2.1)) (fun hHeld=> ?_)
 clear hK K
 try simp only [List.getElem_toArray,List.getElem_cons_zero,List.getElem_cons_succ,Act.put,List.setIfInBounds_toArray,List.set_cons_zero,List.set_cons_succ]
 refine wpAnyH_ready (rs:= [27]) (by kernel_rfl) (by simp) ?_
 refine AllReadyH.cons rfl (fun K hK=> ?_) AllReadyH.nil
 simp only [List.getElem_toArray,List.getElem_cons_zero,List.getElem_cons_succ]
 rw [if_pos (by rfl)]
 go_wp2_with fail
 refine (wC 5 base S.q.bb S.lb W3 (HZ.out.1.ag.below HZ.out.2.2.1) HZ.out.2.1.cC HZ.out.2.1.FP).mono ?_
 rintro e W4 ⟨a4,c4,rfl,hown,hb⟩
 have FA:Hid (nU W3.heap.size W4.heap.size (blk a4)∧W3.heap.size≤W4.heap.size):=⟨px hown,hb.size⟩
 have HY:Hid (W4.ownsRow W0.heap.size 43 12 (.slice a1 (S.lp.map (·.1)).length c1) (S.lp.map (·.1)).length (bg.flat (S.lp.map (·.1)))∧W4.ownsRow W1.heap.size 49 3 (.slice a2 (S.ls.map (·.1)).length c2) (S.ls.map (·.1)).length (dm.flat (S.ls.map (·.1)))∧W4.ownsRow W2.heap.size 138 2 (.slice a3 (S.le.map (·.1)).length c3) (S.le.map (·.1)).length (bJ.flat (S.le.map (·.1)))∧W4.ownsRow W3.heap.size 141 3 (.slice a4 (S.lb.map (·.1)).length c4) (S.lb.map (·.1)).length (bG.flat (S.lb.map (·.1)))∧W0.heap.size≤W1.heap.size∧W1.heap.size≤W2.heap.size∧W2.heap.size≤W3.heap.size∧W3.heap.size≤W4.heap.size):=⟨cR HR.out.1 hb,cR HR.out.2.1 hb,cR HR.out.2.2.1 hb,hown,HR.out.2.2.2.1,HR.out.2.2.2.2.1,HR.out.2.2.2.2.2,hb.size⟩
 clear HR
 have HR:=HY
 clear HY
 have iP:Hid (cJ w base o S∧S.Fits∧Below w.heap.size w W4∧W4.heap[w.heap.size]? =some (.cells ar 32 (0,0))∧w.heap.size < W0.heap.size):=⟨HZ.out.1,HZ.out.2.1,HZ.out.2.2.1.trans (hb.mono HZ.out.2.2.1.size),(hb.block _ (Array.getElem?_eq_some_iff.1 HZ.out.2.2.2.1).1).trans HZ.out.2.2.2.1,HZ.out.2.2.2.2⟩
 clear HZ hown hb
 have HZ:=iP
 clear iP hHeld
 refine hK.out _ _ (kP (HZ.out.1.opn.below HZ.out.2.2.1)) (fun hHeld=> ?_)
 clear hK K
 try simp only [List.getElem_toArray,List.getElem_cons_zero,List.getElem_cons_succ,Act.put,List.setIfInBounds_toArray,List.set_cons_zero,List.set_cons_succ]
 refine wpAnyH_ready (rs:= [32]) (by kernel_rfl) (by simp) ?_
 refine AllReadyH.cons rfl (fun K hK=> ?_) AllReadyH.nil
 simp only [List.getElem_toArray,List.getElem_cons_zero,List.getElem_cons_succ]
 rw [if_pos (by rfl)]
 go_wp2_with fail
 refine (uk 5 base S.q.bf S.lf W4 (HZ.out.1.ae.below HZ.out.2.2.1) HZ.out.2.1.cb HZ.out.2.1.DW).mono ?_
 rintro e W5 ⟨a5,c5,rfl,hown,hb⟩
 have Ik:Hid (nU W4.heap.size W5.heap.size (blk a5)∧W4.heap.size≤W5.heap.size):=⟨px hown,hb.size⟩
 have HY:Hid (W5.ownsRow W0.heap.size 43 12 (.slice a1 (S.lp.map (·.1)).length c1) (S.lp.map (·.1)).length (bg.flat (S.lp.map (·.1)))∧W5.ownsRow W1.heap.size 49 3 (.slice a2 (S.ls.map (·.1)).length c2) (S.ls.map (·.1)).length (dm.flat (S.ls.map (·.1)))∧W5.ownsRow W2.heap.size 138 2 (.slice a3 (S.le.map (·.1)).length c3) (S.le.map (·.1)).length (bJ.flat (S.le.map (·.1)))∧W5.ownsRow W3.heap.size 141 3 (.slice a4 (S.lb.map (·.1)).length c4) (S.lb.map (·.1)).length (bG.flat (S.lb.map (·.1)))∧W5.ownsRow W4.heap.size 144 3 (.slice a5 (S.lf.map (·.1)).length c5) (S.lf.map (·.1)).length (bm.flat (S.lf.map (·.1)))∧W0.heap.size≤W1.heap.size∧W1.heap.size≤W2.heap.size∧W2.heap.size≤W3.heap.size∧W3.heap.size≤W4.heap.size∧W4.heap.size≤W5.heap.size):=⟨cR HR.out.1 hb,cR HR.out.2.1 hb,cR HR.out.2.2.1 hb,cR HR.out.2.2.2.1 hb,hown,HR.out.2.2.2.2.1,HR.out.2.2.2.2.2.1,HR.out.2.2.2.2.2.2.1,HR.out.2.2.2.2.2.2.2,hb.size⟩
 clear HR
 have HR:=HY
 clear HY
 have iP:Hid (cJ w base o S∧S.Fits∧Below w.heap.size w W5∧W5.heap[w.heap.size]? =some (.cells ar 32 (0,0))∧w.heap.size < W0.heap.size):=⟨HZ.out.1,HZ.out.2.1,HZ.out.2.2.1.trans (hb.mono HZ.out.2.2.1.size),(hb.block _ (Array.getElem?_eq_some_iff.1 HZ.out.2.2.2.1).1).trans HZ.out.2.2.2.1,HZ.out.2.2.2.2⟩
 clear HZ hown hb
 have HZ:=iP
 clear iP hHeld
 refine hK.out _ _ (kP (HZ.out.1.opn.below HZ.out.2.2.1)) (fun hHeld=> ?_)
 clear hK K
 try simp only [List.getElem_toArray,List.getElem_cons_zero,List.getElem_cons_succ,Act.put,List.setIfInBounds_toArray,List.set_cons_zero,List.set_cons_succ]
 refine wpAnyH_ready (rs:= [37]) (by kernel_rfl) (by simp) ?_
 refine AllReadyH.cons rfl (fun K hK=> ?_) AllReadyH.nil
 simp only [List.getElem_toArray,List.getElem_cons_zero,List.getElem_cons_succ]
 rw [if_pos (by rfl)]
 go_wp2_with fail
 refine (zf 5 base S.q.bq S.lq W5 (HZ.out.1.ai.below HZ.out.2.2.1) HZ.out.2.1.dH HZ.out.2.1.Jz).mono ?_
 rintro e W6 ⟨a6,c6,rfl,hown,hb⟩
 have Jw:Hid (nU W5.heap.size W6.heap.size (blk a6)∧W5.heap.size≤W6.heap.size):=⟨px hown,hb.size⟩
 have HY:Hid (W6.ownsRow W0.heap.size 43 12 (.slice a1 (S.lp.map (·.1)).length c1) (S.lp.map (·.1)).length (bg.flat (S.lp.map (·.1)))∧W6.ownsRow W1.heap.size 49 3 (.slice a2 (S.ls.map (·.1)).length c2) (S.ls.map (·.1)).length (dm.flat (S.ls.map (·.1)))∧W6.ownsRow W2.heap.size 138 2 (.slice a3 (S.le.map (·.1)).length c3) (S.le.map (·.1)).length (bJ.flat (S.le.map (·.1)))∧W6.ownsRow W3.heap.size 141 3 (.slice a4 (S.lb.map (·.1)).length c4) (S.lb.map (·.1)).length (bG.flat (S.lb.map (·.1)))∧W6.ownsRow W4.heap.size 144 3 (.slice a5 (S.lf.map (·.1)).length c5) (S.lf.map (·.1)).length (bm.flat (S.lf.map (·.1)))∧W6.ownsRow W5.heap.size 61 5 (.slice a6 (S.lq.map (·.1)).length c6) (S.lq.map (·.1)).length (bX.flat (S.lq.map (·.1)))∧W0.heap.size≤W1.heap.size∧W1.heap.size≤W2.heap.size∧W2.heap.size≤W3.heap.size∧W3.heap.size≤W4.heap.size∧W4.heap.size≤W5.heap.size∧W5.heap.size≤W6.heap.size):=⟨cR HR.out.1 hb,cR HR.out.2.1 hb,cR HR.out.2.2.1 hb,cR HR.out.2.2.2.1 hb,cR HR.out.2.2.2.2.1 hb,hown,HR.out.2.2.2.2.2.1,HR.out.2.2.2.2.2.2.1,HR.out.2.2.2.2.2.2.2.1,HR.out.2.2.2.2.2.2.2.2.1,HR.out.2.2.2.2.2.2.2.2.2,hb.size⟩
 clear HR
 have HR:=HY
 clear HY
 have iP:Hid (cJ w base o S∧S.Fits∧Below w.heap.size w W6∧W6.heap[w.heap.size]? =some (.cells ar 32 (0,0))∧w.heap.size < W0.heap.size):=⟨HZ.out.1,HZ.out.2.1,HZ.out.2.2.1.trans (hb.mono HZ.out.2.2.1.size),(hb.block _ (Array.getElem?_eq_some_iff.1 HZ.out.2.2.2.1).1).trans HZ.out.2.2.2.1,HZ.out.2.2.2.2⟩
 clear HZ hown hb
 have HZ:=iP
 clear iP hHeld
 refine hK.out _ _ (kP (HZ.out.1.opn.below HZ.out.2.2.1)) (fun hHeld=> ?_)
 clear hK K
 try simp only [List.getElem_toArray,List.getElem_cons_zero,List.getElem_cons_succ,Act.put,List.setIfInBounds_toArray,List.set_cons_zero,List.set_cons_succ]
 refine wpAnyH_take (i:=38) (v:= .agg #[.int .i64 S.q.id,.int .i64 S.q.next,.slice a1 S.lp.length c1,.slice a2 S.ls.length c2,.slice a3 S.le.length c3,.slice a4 S.lb.length c4,.slice a5 S.lf.length c5,.slice a6 S.lq.length c6]) rfl (by kernel_rfl) (by kernel_rfl) (by kernel_rfl) (fun _ _ _ h=>h) (Or.inl ⟨by kernel_rfl,?_⟩) hHeld ?_
 ·intro w0 hS0
  go_simp
  try with_reducible rfl
 simp only [List.getElem_toArray,List.getElem_cons_zero,List.getElem_cons_succ,Act.put,List.setIfInBounds_toArray,List.set_cons_zero,List.set_cons_succ]
 refine wpAnyH_ready (rs:= [39]) (by kernel_rfl) (by simp) ?_
 refine AllReadyH.cons rfl (fun K hK=> ?_) AllReadyH.nil
 simp only [List.getElem_toArray,List.getElem_cons_zero,List.getElem_cons_succ]
 rw [if_pos (by rfl)]
 refine qd _ _ _ rfl w.heap.size _ _ #[.int .i64 S.q.id,.int .i64 S.q.next,.slice a1 S.lp.length c1,.slice a2 S.ls.length c2,.slice a3 S.le.length c3,.slice a4 S.lb.length c4,.slice a5 S.lf.length c5,.slice a6 S.lq.length c6] rfl rfl HZ.out.2.2.2.1 (by kernel_rfl) rfl (by simp [Value.oneCell']) ?_
 have p7:o < w.heap.size:=(Array.getElem?_eq_some_iff.1 HZ.out.1.opn).1
 have hbs:Below w.heap.size w (W6.setRow w.heap.size #[.int .i64 S.q.id,.int .i64 S.q.next,.slice a1 S.lp.length c1,.slice a2 S.ls.length c2,.slice a3 S.le.length c3,.slice a4 S.lb.length c4,.slice a5 S.lf.length c5,.slice a6 S.lq.length c6]):=below_setRow HZ.out.2.2.1 (Nat.le_refl _) _
 refine hK.out _ _ (kP (HZ.out.1.opn.below hbs)) (fun hHeld=> ?_)
 clear hK K hHeld
 refine wpAnyH_done (by kernel_rfl) ?_ _
 repeat (first | go_values | go_skip | go_guarded | go_step | go_upon)
 refine gZ Tryz.results85 w.heap.size #[.int .i64 S.q.id,.int .i64 S.q.next,.slice a1 S.lp.length c1,.slice a2 S.ls.length c2,.slice a3 S.le.length c3,.slice a4 S.lb.length c4,.slice a5 S.lf.length c5,.slice a6 S.lq.length c6] HZ.out.2.2.2.1 ?_
 have hA:=HZ.out.1
 have kj:=HZ.out.2.2.1
 have hlo:=hA.low
 have hw0:=HZ.out.2.2.2.2
 have t1:=wm.out.2
 have t2:=xD.out.2
 have t3:=Fz.out.2
 have t4:=FA.out.2
 have t5:=Ik.out.2
 have t6:=Jw.out.2
 have hmP: ∀ q∈S.lp,aR.cO W6 base q.1:=fun q hq=>(hA.eI q hq).same fun g hk=>kj.block g ((hA.eI q hq).lt hk).2
 have hmF: ∀ q∈S.lf,aC.cO W6 base q.1:=fun q hq=>(hA.eE q hq).same fun g hk=>kj.block g ((hA.eE q hq).lt hk).2
 have hmQ: ∀ q∈S.lq,aU.cO W6 base q.1:=fun q hq=>(hA.eR q hq).same fun g hk=>kj.block g ((hA.eR q hq).lt hk).2
 have hkn:S.kids.Nodup:=(List.nodup_append.1 (List.nodup_cons.1 hA.nodup).2).2.1
 have hkl: ∀ g∈S.kids,g < w.heap.size:=fun g hg=>by
  simp only [aZ.kids,List.mem_append,kids,List.mem_filterMap] at hg
  rcases hg with ⟨q,hq,hk⟩ | ⟨q,hq,hk⟩ | ⟨q,hq,hk⟩
  ·exact ((hA.eI q hq).lt hk).2
  ·exact ((hA.eE q hq).lt hk).2
  ·exact ((hA.eR q hq).lt hk).2
 have eP:(S.lp.map (·.1)).filterMap aR.bt=kids aR S.lp:=by rw [List.filterMap_map]; rfl
 have eF:(S.lf.map (·.1)).filterMap aC.bt=kids aC S.lf:=by rw [List.filterMap_map]; rfl
 have eQ:(S.lq.map (·.1)).filterMap aU.bt=kids aU S.lq:=by rw [List.filterMap_map]; rfl
 have hown:ap W6 base (⟨S.q.id,S.q.next,S.lp.map (·.1),a1,c1,S.ls.map (·.1),a2,c2,S.le.map (·.1),a3,c3,S.lb.map (·.1),a4,c4,S.lf.map (·.1),a5,c5,S.lq.map (·.1),a6,c6⟩:af):=by
  refine ⟨cq HR.out.1 (by omega),cq HR.out.2.1 (by omega),cq HR.out.2.2.1 (by omega),cq HR.out.2.2.2.1 (by omega),cq HR.out.2.2.2.2.1 (by omega),cq HR.out.2.2.2.2.2.1 (by omega),?_,?_,?_,?_⟩
  ·intro x hx
   obtain ⟨q,hq,rfl⟩:=List.mem_map.1 hx
   exact hmP q hq
  ·intro x hx
   obtain ⟨q,hq,rfl⟩:=List.mem_map.1 hx
   exact hmF q hq
  ·intro x hx
   obtain ⟨q,hq,rfl⟩:=List.mem_map.1 hx
   exact hmQ q hq
  ·simp only [af.blocks,eP,eF,eQ]
   exact Dv (N:=W0.heap.size) hkn (fun g hg=>by have:=hkl g hg; omega) wm.out.1 xD.out.1 Fz.out.1 FA.out.1 Ik.out.1 Jw.out.1 ⟨t1,t2,t3,t4,t5,t6⟩
 have hne: ∀ g∈(⟨S.q.id,S.q.next,S.lp.map (·.1),a1,c1,S.ls.map (·.1),a2,c2,S.le.map (·.1),a3,c3,S.lb.map (·.1),a4,c4,S.lf.map (·.1),a5,c5,S.lq.map (·.1),a6,c6⟩:af).blocks,g≠w.heap.size:=fun g hg e=>by
  simp only [af.blocks,eP,eF,eQ,List.mem_append] at hg
  have hk: ∀ g,(g∈kids aR S.lp∨g∈kids aC S.lf∨g∈kids aU S.lq)→g < w.heap.size:=fun g h5=>hkl g (by simp only [aZ.kids,List.mem_append]; exact h5)
  rcases hg with hg | hg | hg | hg | hg | hg | hg | hg | hg
  ·have:=(wm.out.1.2 g hg).1; omega
  ·have:=hk g (.inl hg); omega
  ·have:=(xD.out.1.2 g hg).1; omega
  ·have:=(Fz.out.1.2 g hg).1; omega
  ·have:=(FA.out.1.2 g hg).1; omega
  ·have:=(Ik.out.1.2 g hg).1; omega
  ·have:=hk g (.inr (.inl hg)); omega
  ·have:=(Jw.out.1.2 g hg).1; omega
  ·have:=hk g (.inr (.inr hg)); omega
 exact ⟨(⟨S.q.id,S.q.next,S.lp.map (·.1),a1,c1,S.ls.map (·.1),a2,c2,S.le.map (·.1),a3,c3,S.lb.map (·.1),a4,c4,S.lf.map (·.1),a5,c5,S.lq.map (·.1),a6,c6⟩:af),by simp [af.cells],hown.same fun g hg=>setRow_other _ _ _ _ (hne g hg),by simp [af.pure,aZ.pure,Function.comp_def],hbs⟩
theorem xX {z:Int} (h:cv z 1 1000=true):(Lit.int .i64 z).wf=true:=by
 have h2:=bz.1 h
 have e1:IntKind.min .i64≤0:=by decide
 have e2:100000≤IntKind.max .i64:=by decide
 simp only [Lit.wf,Bool.and_eq_true,decide_eq_true_eq]
 omega
theorem iB {S:aZ} (h:aQ S.pure):S.Fits:=by
 refine ⟨?_,?_,?_,?_,?_,?_,?_,?_,?_,?_,?_,?_⟩
 ·have h5:=h.dl
  have h6:S.pure.procs.length=S.lp.length:=by simp [aZ.pure]
  omega
 ·intro p hp
  obtain ⟨r,hr,rfl⟩:=List.mem_map.1 hp
  exact xX (cK h.procs (r.1.toaD) (List.mem_map.2 ⟨r,hr,rfl⟩)).1
 ·have h5:=h.fx
  have h6:S.pure.aj.length=S.ls.length:=by simp [aZ.pure]
  omega
 ·intro p hp
  obtain ⟨r,hr,rfl⟩:=List.mem_map.1 hp
  exact xX (cK h.aj (r.1) (List.mem_map.2 ⟨r,hr,rfl⟩)).1
 ·have h5:=h.cD
  have h6:S.pure.events.length=S.le.length:=by simp [aZ.pure]
  omega
 ·intro p hp
  obtain ⟨r,hr,rfl⟩:=List.mem_map.1 hp
  exact xX (cK h.events (r.1) (List.mem_map.2 ⟨r,hr,rfl⟩)).1
 ·have h5:=h.cC
  have h6:S.pure.ag.length=S.lb.length:=by simp [aZ.pure]
  omega
 ·intro p hp
  obtain ⟨r,hr,rfl⟩:=List.mem_map.1 hp
  exact xX (cK h.ag (r.1) (List.mem_map.2 ⟨r,hr,rfl⟩)).1
 ·have h5:=h.cb
  have h6:S.pure.ae.length=S.lf.length:=by simp [aZ.pure]
  omega
 ·intro p hp
  obtain ⟨r,hr,rfl⟩:=List.mem_map.1 hp
  exact xX (cK h.ae (r.1.toci) (List.mem_map.2 ⟨r,hr,rfl⟩)).1
 ·have h5:=h.dH
  have h6:S.pure.ai.length=S.lq.length:=by simp [aZ.pure]
  omega
 ·intro p hp
  obtain ⟨r,hr,rfl⟩:=List.mem_map.1 hp
  exact xX (cK h.ai (r.1.todS) (List.mem_map.2 ⟨r,hr,rfl⟩)).1
end Go.Proofs.YtkbcplnlehdjfaaGreat
namespace Go.Proofs.YtkbcplnlehdjfaaGreat
open Go.RowKit
section
variable {α:Type} {num:α→Int} {ok:α→Bool}
theorem rf (x:α): ∀ l:List α,num x∉l.map num→cA num x l=bY num x l
 | [],_=>rfl
 | y :: r,h=>by
  simp only [List.map_cons,List.mem_cons,not_or] at h
  simp only [bY,cA,rf x r h.2]
  by_cases h1:num y < num x
  ·rw [if_pos h1,if_neg (by omega)]
  ·rw [if_neg h1,if_pos (by omega)]
theorem jE {ok':α→Bool} : ∀ {l:List α} {last:Int},aw num ok last l=true→(∀ x∈l,ok x=true→ok' x=true)→aw num ok' last l=true
 | [],_,_,_=>rfl
 | x :: r,last,h,hm=>by
  simp only [aw,Bool.and_eq_true] at h ⊢
  exact ⟨⟨h.1.1,hm x (by simp) h.1.2⟩,jE h.2 fun y hy=>hm y (by simp [hy])⟩
def jn (num:α→Int) (ok:α→Bool) (x:α) (l:List α):Bool:= !decide (num x∈l.map num) && cv (num x) 1 1000 && ok x
theorem vJ {x:α} : ∀ {l:List α} {last:Int},aw num ok last l=true→last < num x→aw num ok last (bY num x l)=jn num ok x l
 | [],last,_,hl=>by simp [bY,aw,jn,hl]
 | y :: r,last,h,hl=>by
  have h':=h
  simp only [aw,Bool.and_eq_true,decide_eq_true_eq] at h
  by_cases h1:num x < num y
  ·have hr:=db h.2
   have hn:num x∉(y :: r).map num:=fun hm=>by
    rcases List.mem_cons.1 hm with e | hm
    ·omega
    ·obtain ⟨z,hz,e⟩:=List.mem_map.1 hm
     have:=hr.1 z hz
     omega
   rw [jn,decide_eq_false hn]
   simp [bY,h1,aw,hl,h.1.1.1,h.1.2,h.2]
  ·simp only [bY,if_neg h1,aw]
   by_cases h2:num y=num x
   ·have hm:num x∈(y :: r).map num:=by simp [h2]
    have h3:aw num ok (num y) (bY num x r)=false:=by
     cases h4:aw num ok (num y) (bY num x r) with
     | false=>rfl
     | true=>
      have:=(db h4).1 x (fq.2 (.inl rfl))
      omega
    rw [jn,decide_eq_true hm,h3]
    simp
   ·rw [vJ h.2 (by omega)]
    have h5:(num x∈(y :: r).map num)↔num x∈r.map num:=by
     simp only [List.map_cons,List.mem_cons]
     constructor
     ·rintro (e | e)
      ·exact absurd e.symm h2
      ·exact e
     ·exact .inr
    simp only [jn,h5,h.1.1.1,h.1.1.2,h.1.2,decide_true,Bool.true_and]
theorem mw {x:α} {l:List α} (h:aw num ok 0 l=true):aw num ok 0 (bY num x l)=jn num ok x l:=by
 by_cases h0:0 < num x
 ·exact vJ h h0
 ·have h1:cv (num x) 1 1000=false:=by
   cases h2:cv (num x) 1 1000 with
   | false=>rfl
   | true=>have:=bz.1 h2; omega
  cases h4:aw num ok 0 (bY num x l) with
  | false=>simp [jn,h1]
  | true=>
   have:=(db h4).1 x (fq.2 (.inl rfl))
   omega
theorem uw {x:α} : ∀ {l:List α} {last:Int},num x∈l.map num→aw num ok last l=true→aw num ok last (cA num x l)=false
 | [],_,h,_=>by simp at h
 | y :: r,last,h,ht=>by
  simp only [aw,Bool.and_eq_true,decide_eq_true_eq] at ht
  simp only [cA]
  by_cases h1:num y < num x
  ·rw [if_pos h1]
   have h2:num x∈r.map num:=by
    rcases List.mem_cons.1 h with e | e
    ·omega
    ·exact e
   simp [aw,uw h2 ht.2]
  ·rw [if_neg h1]
   have h2: ¬ num x < num y:=fun h3=>by
    rcases List.mem_cons.1 h with e | e
    ·omega
    ·obtain ⟨z,hz,e⟩:=List.mem_map.1 e
     have:=(db ht.2).1 z hz
     omega
   simp [aw,h2]
theorem pZ {x:α} {l:List α} (h:aw num ok 0 l=true):aw num ok 0 (cA num x l)=jn num ok x l:=by
 by_cases hm:num x∈l.map num
 ·rw [uw hm h,jn,decide_eq_true hm]
  rfl
 ·rw [rf x l hm]
  exact mw h
end
theorem nm {p p':aE} (h:bK p=false):cB p p'=none:=by simp [cB,h]
theorem ox {p p':aE} (h:bK p'=false):cB p p'=none:=by simp [cB,h]
theorem mZ {p p':aE} (h:bK p=true) (h':bK p'=true):cB p p'=some p':=by simp [cB,h,h']
theorem pq {p p':aE} {y:aD} (h1: ∀ z∈p.aj.map (·.id),z∈p'.aj.map (·.id)) (h2: ∀ z∈p.events.map (·.id),z∈p'.events.map (·.id)) (h3: ∀ z∈p.ag.map (·.id),z∈p'.ag.map (·.id)) (h4: ∀ z∈p.ae.map (·.id),z∈p'.ae.map (·.id)) (h:dG p y=true):dG p' y=true:=by
 unfold dG at h ⊢
 by_cases hs:3≤y.state
 ·rw [if_pos hs] at h ⊢
  unfold hasB at h ⊢
  by_cases e3:y.state=3
  ·rw [if_pos e3,decide_eq_true_eq] at h ⊢
   exact h1 _ h
  rw [if_neg e3] at h ⊢
  by_cases e4:y.state=4
  ·rw [if_pos e4,decide_eq_true_eq] at h ⊢
   exact h2 _ h
  rw [if_neg e4] at h ⊢
  by_cases e5:y.state=5∨y.state=6
  ·rw [if_pos e5,decide_eq_true_eq] at h ⊢
   exact h4 _ h
  rw [if_neg e5] at h ⊢
  by_cases e7:y.state=7
  ·rw [if_pos e7,decide_eq_true_eq] at h ⊢
   exact h3 _ h
  rw [if_neg e7] at h
  cases h
 ·rw [if_neg hs]
theorem qU {α:Type} {num:α→Int} {x:α} {l l':List α} (h: ∀ z,z∈l'↔z=x∨z∈l): ∀ z∈l.map num,z∈l'.map num:=fun z hz=>by
 obtain ⟨y,hy,e⟩:=List.mem_map.1 hz
 exact List.mem_map.2 ⟨y,(h y).2 (.inr hy),e⟩
end Go.Proofs.YtkbcplnlehdjfaaGreat
namespace Go.Proofs.YtkbcplnlehdjfaaGreat
open Go.RowKit Go.Maps
theorem dY {A B B':List Nat} {g:Nat} (h:B'.Perm (g :: B)):(A ++ B').Perm (g :: (A ++ B)):=(List.Perm.append_left A h).trans List.perm_middle
theorem lM {α:Type} {num:α→Int} (x:α) (b g:Nat) (l:List (α × Nat)):(b :: (fc num (x,g) l).map (·.2)).Perm (g :: (b :: l.map (·.2))):=
 have h:((fc num (x,g) l).map (·.2)).Perm (g :: l.map (·.2)):=(lC (num:=num) (x,g) l).map (·.2)
 (List.Perm.cons b h).trans (List.Perm.swap g b _)
theorem m9 {α β:Type} {num:α→Int} {je:β→Int} (f:α→β) (hf: ∀ y,je (f y)=num y) (x:α) (g:Nat): ∀ l:List (α × Nat),(fc num (x,g) l).map (fun p=>f p.1)=bY je (f x) (l.map (fun p=>f p.1))
 | [] =>rfl
 | y :: r=>by
  simp only [fc,bY,List.map_cons,hf]
  split
  ·simp
  ·simp [m9 f hf x g r]
theorem AG {α:Type} {N:gd α} {num:α→Int} (x:α) (g:Nat) (l:List (α × Nat)):(kids N (fc num (x,g) l)).Perm (kids N ((x,g) :: l)):=(lC (num:=num) (x,g) l).filterMap _
theorem oP {α β:Type} {num:α→Int} {je:β→Int} (f:α→β) (hf: ∀ y,je (f y)=num y) (ok:β→Bool) (x:α) (n:Nat) (l:List (α × Nat)):iI n (keysOf num l) (num x) (ok (f x))=(jn je ok (f x) (l.map (fun p=>f p.1)) && decide ((l.map (fun p=>f p.1)).length < n)):=by
 have e1:(keysOf num l).map (·.1)=(l.map (fun p=>f p.1)).map je:=by
  simp only [keysOf,List.map_map]
  exact List.map_congr_left fun p _=>(hf p.1).symm
 have e2:decide (((keysOf num l).length:Int) < (n:Int))=decide ((l.map (fun p=>f p.1)).length < n):=by
  rw [bZ,List.length_map]
  exact decide_eq_decide.2 (by omega)
 unfold iI jn
 rw [ry,e1,e2,hf]
 cases decide ((l.map (fun p=>f p.1)).length < n) <;> simp
theorem uq {α:Type} {num:α→Int} {ok:α→Bool} {x:α} {l:List α} {n:Nat} (h:(jn num ok x l && decide (l.length < n))=true):num x∉l.map num:=by
 simp only [jn,Bool.and_eq_true,Bool.not_eq_true',decide_eq_false_iff_not] at h
 exact h.1.1.1
end Go.Proofs.YtkbcplnlehdjfaaGreat
namespace Go.Proofs.YtkbcplnlehdjfaaGreat
open Go.RowKit
theorem vE {p:aE} {x:ci} (h:aQ p):bK ({ p with ae:=bY (·.id) x p.ae } :aE)=(jn (·.id) ct x p.ae && decide (p.ae.length < 5)):=by
 rw [Bool.eq_iff_iff,ch,Bool.and_eq_true,decide_eq_true_eq,← mw h.ae]
 constructor
 ·intro h2
  have h3:(bY (·.id) x p.ae).length≤5:=h2.cb
  rw [er] at h3
  exact ⟨h2.ae,by omega⟩
 ·intro h2
  have h3:=h2.2
  refine ⟨h.id,h.next,h.dl,h.fx,h.cD,h.cC,(by show (bY (·.id) x p.ae).length≤5; rw [er]; omega),h.dH,jE h.procs ?_,h.aj,h.events,h.ag,h2.1,h.ai,h.apart⟩
  exact fun y _ hy=>by
    simp only [Bool.and_eq_true] at hy ⊢
    exact ⟨hy.1,pq (p:=p) (fun _ hz=>hz) (fun _ hz=>hz) (fun _ hz=>hz) (qU fun _=>fq) hy.2⟩
theorem Ed {p:aE} {x:bD} (h:aQ p):bK ({ p with aj:=cA (·.id) x p.aj } :aE)=(jn (·.id) gw x p.aj && decide (p.aj.length < 5)):=by
 rw [Bool.eq_iff_iff,ch,Bool.and_eq_true,decide_eq_true_eq,← pZ h.aj]
 constructor
 ·intro h2
  have h3:(cA (·.id) x p.aj).length≤5:=h2.fx
  rw [eJ] at h3
  exact ⟨h2.aj,by omega⟩
 ·intro h2
  have h3:=h2.2
  refine ⟨h.id,h.next,h.dl,(by show (cA (·.id) x p.aj).length≤5; rw [eJ]; omega),h.cD,h.cC,h.cb,h.dH,jE h.procs ?_,h2.1,h.events,h.ag,h.ae,h.ai,h.apart⟩
  exact fun y _ hy=>by
    simp only [Bool.and_eq_true] at hy ⊢
    exact ⟨hy.1,pq (p:=p) (qU fun _=>js) (fun _ hz=>hz) (fun _ hz=>hz) (fun _ hz=>hz) hy.2⟩
theorem xE {p:aE} {x:aB} (h:aQ p):bK ({ p with events:=cA (·.id) x p.events } :aE)=(jn (·.id) ey x p.events && decide (p.events.length < 5)):=by
 rw [Bool.eq_iff_iff,ch,Bool.and_eq_true,decide_eq_true_eq,← pZ h.events]
 constructor
 ·intro h2
  have h3:(cA (·.id) x p.events).length≤5:=h2.cD
  rw [eJ] at h3
  exact ⟨h2.events,by omega⟩
 ·intro h2
  have h3:=h2.2
  refine ⟨h.id,h.next,h.dl,h.fx,(by show (cA (·.id) x p.events).length≤5; rw [eJ]; omega),h.cC,h.cb,h.dH,jE h.procs ?_,h.aj,h2.1,h.ag,h.ae,h.ai,h.apart⟩
  exact fun y _ hy=>by
    simp only [Bool.and_eq_true] at hy ⊢
    exact ⟨hy.1,pq (p:=p) (fun _ hz=>hz) (qU fun _=>js) (fun _ hz=>hz) (fun _ hz=>hz) hy.2⟩
theorem xY {p:aE} {x:az} (h:aQ p):bK ({ p with ag:=cA (·.id) x p.ag } :aE)=(jn (·.id) cU x p.ag && decide (p.ag.length < 5)):=by
 rw [Bool.eq_iff_iff,ch,Bool.and_eq_true,decide_eq_true_eq,← pZ h.ag]
 constructor
 ·intro h2
  have h3:(cA (·.id) x p.ag).length≤5:=h2.cC
  rw [eJ] at h3
  exact ⟨h2.ag,by omega⟩
 ·intro h2
  have h3:=h2.2
  refine ⟨h.id,h.next,h.dl,h.fx,h.cD,(by show (cA (·.id) x p.ag).length≤5; rw [eJ]; omega),h.cb,h.dH,jE h.procs ?_,h.aj,h.events,h2.1,h.ae,h.ai,h.apart⟩
  exact fun y _ hy=>by
    simp only [Bool.and_eq_true] at hy ⊢
    exact ⟨hy.1,pq (p:=p) (fun _ hz=>hz) (fun _ hz=>hz) (qU fun _=>js) (fun _ hz=>hz) hy.2⟩
theorem Ac {p:aE} {x:dS} (h:aQ p):bK ({ p with ai:=bY (·.id) x p.ai } :aE)=(jn (·.id) dj x p.ai && decide (p.ai.length < 5)):=by
 rw [Bool.eq_iff_iff,ch,Bool.and_eq_true,decide_eq_true_eq,← mw h.ai]
 constructor
 ·intro h2
  have h3:(bY (·.id) x p.ai).length≤5:=h2.dH
  rw [er] at h3
  exact ⟨h2.ai,by omega⟩
 ·intro h2
  have h3:=h2.2
  refine ⟨h.id,h.next,h.dl,h.fx,h.cD,h.cC,h.cb,(by show (bY (·.id) x p.ai).length≤5; rw [er]; omega),jE h.procs ?_,h.aj,h.events,h.ag,h.ae,h2.1,h.apart⟩
  exact fun _ _ hy=>hy
end Go.Proofs.YtkbcplnlehdjfaaGreat
