/- What the proof leans on, part 8. -/
import Derived.Test.YteidkehoekbcaaaGreatOwnP6
import Derived.Test.YteidkehoekbcaaaGreatOwnP7
set_option maxRecDepth 100000
set_option maxHeartbeats 8000000
open Array renaming getElem?_eq_some_iff->J2
open Function renaming comp_def->Ls
open Go renaming block_lt_of_cell->Le,wp_at_succ->Kd,wp_at_zero->Kc
open Go.Proofs.Tryz renaming prog->J3
open Go.RowKit.Below renaming refl->Kp
open Go.World renaming cell?_of_block->J1
open List renaming getElem_cons_succ->K1,getElem_cons_zero->K0,getElem_toArray->KZ,mem_append->Kg,mem_map->Lr,mem_of_getElem?->KA,nodup_append->Kf,setIfInBounds_toArray->Qr,set_cons_succ->Lo,set_cons_zero->Ln
open Nat renaming le_refl->Ki

namespace Go.Proofs.YteidkehoekbcaaaGreat
section
open Go.RowKit Go.Maps
attribute [local go_sem ↓] Kc Kd
theorem Dv {VO VS VV r1 r2 r3 r4 r5 r6:List Nat} {N n1 n2 n3 n4 n5 n6:Nat} (hk:(VO ++ (VS ++ VV)).Nodup) (hkl: ∀ g∈VO ++ (VS ++ VV),g < N) (h1:nU N n1 r1) (h2:nU n1 n2 r2) (h3:nU n2 n3 r3) (h4:nU n3 n4 r4) (h5:nU n4 n5 r5) (h6:nU n5 n6 r6)
  (e:N≤n1∧n1≤n2∧n2≤n3∧n3≤n4∧n4≤n5∧n5≤n6):(r1 ++ (VO ++ (r2 ++ (r3 ++ (r4 ++ (r5 ++ (VS ++ (r6 ++ VV)))))))).Nodup:=by
 have hp:(r1 ++ (VO ++ (r2 ++ (r3 ++ (r4 ++ (r5 ++ (VS ++ (r6 ++ VV)))))))).Perm ((VO ++ (VS ++ VV)) ++ (r1 ++ (r2 ++ (r3 ++ (r4 ++ (r5 ++ r6)))))):=by
  rw [List.perm_iff_count];intro x;simp only [List.count_append];omega
 rw [hp.nodup_iff,Kf];have hr:nU N n6 (r1 ++ (r2 ++ (r3 ++ (r4 ++ (r5 ++ r6))))):=h1.append (h2.append (h3.append (h4.append (h5.append h6 (by omega) (by omega) (by omega)) (by omega) (by omega) (by omega)) (by omega) (by omega) (by omega)) (by omega) (by omega) (by omega)) (by omega) (by omega) (by omega);refine ⟨hk,hr.1,fun a ha b hb e=> ?_⟩
 have:=hkl a ha
 have:=(hr.2 b hb).1
 omega
theorem px {w:World} {base n size cap:Nat} {e:TypeId} {a:Option Addr} {xs:List Value} (h:w.ownsRow base e size (.slice a n cap) n xs):nU base w.heap.size (blk a):=⟨fN a,fun _ hg=>cf h hg⟩
structure aZ.Fits (S:aZ):Prop where
 dl:S.lp.length≤1048576
 Jl: ∀ p∈RW (fun x:ao=>x.id) S.lp,(Lit.int .i64 p.1).wf=true
 fx:S.ls.length≤1048576
 wSem: ∀ p∈RW (fun x:bD=>x.id) S.ls,(Lit.int .i64 p.1).wf=true
 cD:S.le.length≤1048576
 G4: ∀ p∈RW (fun x:aB=>x.id) S.le,(Lit.int .i64 p.1).wf=true
 cC:S.lb.length≤1048576
 FP: ∀ p∈RW (fun x:az=>x.id) S.lb,(Lit.int .i64 p.1).wf=true
 cb:S.lf.length≤1048576
 DW: ∀ p∈RW (fun x:au=>x.id) S.lf,(Lit.int .i64 p.1).wf=true
 dH:S.lq.length≤1048576
 Jz: ∀ p∈RW (fun x:aM=>x.id) S.lq,(Lit.int .i64 p.1).wf=true
def GR (o:Nat) (S:aZ) (w':World):Prop:=w'.cell? ⟨o,0,none⟩=some (.int .i64 S.q.id)∧w'.cell? ⟨o,1,none⟩=some (.int .i64 S.q.next)∧w'.cell? ⟨o,2,none⟩=some (.int .i64 6)∧w'.cell? ⟨o,3,none⟩=some (.map (some S.q.bp))∧w'.cell? ⟨o,4,none⟩=some (.int .i64 5)∧w'.cell? ⟨o,5,none⟩=some (.map (some S.q.bs))∧w'.cell? ⟨o,6,none⟩=some (.int .i64 5)∧w'.cell? ⟨o,7,none⟩=some (.map (some S.q.be))∧w'.cell? ⟨o,8,none⟩=some (.int .i64 5)∧w'.cell? ⟨o,9,none⟩=some (.map (some S.q.bb))∧w'.cell? ⟨o,10,none⟩=some (.int .i64 5)∧w'.cell? ⟨o,11,none⟩=some (.map (some S.q.bf))∧w'.cell? ⟨o,12,none⟩=some (.int .i64 5)∧w'.cell? ⟨o,13,none⟩=some (.map (some S.q.bq))
theorem kP {o:Nat} {S:aZ} {w:World} (h:fa w o S.q):GR o S w:=⟨h.cell 0,h.cell 1,h.cell 2,h.cell 3,h.cell 4,h.cell 5,h.cell 6,h.cell 7,h.cell 8,h.cell 9,h.cell 10,h.cell 11,h.cell 12,h.cell 13⟩
def Hc (w:World) (base:Nat) (v:aE) (e:Ending) (w':World):Prop:= ∃ r:af,e= .returned (.agg r.cells)∧ap w' base r∧r.pure=v∧Below w.heap.size w w'
theorem jR (o base:Nat) (S:aZ) (w:World) (h:cJ w base o S) (hf:S.Fits):Calls J3 47 #[.pointer (some ⟨o,0,none⟩)] w fun e w'=>Hc w base S.pure e w':=by
 have hb0:Below w.heap.size w (w.alloc (.cells ar 48)):=(Kp _ _).alloc (Ki _) _;have HZ:Hid (cJ w base o S∧S.Fits∧Below w.heap.size w (w.alloc (.cells ar 48)).drew∧(w.alloc (.cells ar 48)).drew.heap[w.heap.size]? =some (.cells ar 48 (0,0))∧w.heap.size < (w.alloc (.cells ar 48)).drew.heap.size):=⟨h,hf,hb0.drew,heap_alloc_new _ _,by simp⟩
 have HS:Hid (GR o S (w.alloc (.cells ar 48)).drew):=kP (h.opn.below hb0.drew);clear h hf hb0
 go_enter Tryz.func47,Tryz.ntmps47
 go_wp2_with fail;generalize w.alloc (.cells ar 48)=W at *;refine wp_region_held_drew (S:=GR o S) (by kernel_rfl) HS.I (fun hHeld=> ?_);refine tt 0 hHeld ?_ (hy:=fun w0 hS0=>by obtain ⟨q0,q1,q2,q3,q4,q5,q6,q7,q8,q9,kY,kV,lB,lz⟩:=hS0; go_simp; try with_reducible rfl);refine tt 1 hHeld ?_ (hy:=fun w0 hS0=>by obtain ⟨q0,q1,q2,q3,q4,q5,q6,q7,q8,q9,kY,kV,lB,lz⟩:=hS0; go_simp; try with_reducible rfl);refine tt 2 hHeld ?_ (hy:=fun w0 hS0=>by obtain ⟨q0,q1,q2,q3,q4,q5,q6,q7,q8,q9,kY,kV,lB,lz⟩:=hS0; go_simp; try with_reducible rfl);refine tt 3 hHeld ?_ (hy:=fun w0 hS0=>by obtain ⟨q0,q1,q2,q3,q4,q5,q6,q7,q8,q9,kY,kV,lB,lz⟩:=hS0; go_simp; try with_reducible rfl);refine tt 4 hHeld ?_ (hy:=fun w0 hS0=>by obtain ⟨q0,q1,q2,q3,q4,q5,q6,q7,q8,q9,kY,kV,lB,lz⟩:=hS0; go_simp; try with_reducible rfl);refine tt 5 hHeld ?_ (hy:=fun w0 hS0=>by obtain ⟨q0,q1,q2,q3,q4,q5,q6,q7,q8,q9,kY,kV,lB,lz⟩:=hS0; go_simp; try with_reducible rfl);refine tt 6 hHeld ?_ (hy:=fun w0 hS0=>by obtain ⟨q0,q1,q2,q3,q4,q5,q6,q7,q8,q9,kY,kV,lB,lz⟩:=hS0; go_simp; try with_reducible rfl);refine tt 7 hHeld ?_ (hy:=fun w0 hS0=>by obtain ⟨q0,q1,q2,q3,q4,q5,q6,q7,q8,q9,kY,kV,lB,lz⟩:=hS0; go_simp; try with_reducible rfl);refine tt 8 hHeld ?_ (hy:=fun w0 hS0=>by obtain ⟨q0,q1,q2,q3,q4,q5,q6,q7,q8,q9,kY,kV,lB,lz⟩:=hS0; go_simp; try with_reducible rfl);refine tt 9 hHeld ?_ (hy:=fun w0 hS0=>by obtain ⟨q0,q1,q2,q3,q4,q5,q6,q7,q8,q9,kY,kV,lB,lz⟩:=hS0; go_simp; try with_reducible rfl);refine tt 10 hHeld ?_ (hy:=fun w0 hS0=>by obtain ⟨q0,q1,q2,q3,q4,q5,q6,q7,q8,q9,kY,kV,lB,lz⟩:=hS0; go_simp; try with_reducible rfl);refine tt 11 hHeld ?_ (hy:=fun w0 hS0=>by obtain ⟨q0,q1,q2,q3,q4,q5,q6,q7,q8,q9,kY,kV,lB,lz⟩:=hS0; go_simp; try with_reducible rfl);refine tt 13 hHeld ?_ (hy:=fun w0 hS0=>by obtain ⟨q0,q1,q2,q3,q4,q5,q6,q7,q8,q9,kY,kV,lB,lz⟩:=hS0; go_simp; try with_reducible rfl);refine tt 14 hHeld ?_ (hy:=fun w0 hS0=>by obtain ⟨q0,q1,q2,q3,q4,q5,q6,q7,q8,q9,kY,kV,lB,lz⟩:=hS0; go_simp; try with_reducible rfl);refine tt 15 hHeld ?_ (hy:=fun w0 hS0=>by obtain ⟨q0,q1,q2,q3,q4,q5,q6,q7,q8,q9,kY,kV,lB,lz⟩:=hS0; go_simp; try with_reducible rfl);refine tt 16 hHeld ?_ (hy:=fun w0 hS0=>by obtain ⟨q0,q1,q2,q3,q4,q5,q6,q7,q8,q9,kY,kV,lB,lz⟩:=hS0; go_simp; try with_reducible rfl);refine tt 18 hHeld ?_ (hy:=fun w0 hS0=>by obtain ⟨q0,q1,q2,q3,q4,q5,q6,q7,q8,q9,kY,kV,lB,lz⟩:=hS0; go_simp; try with_reducible rfl);refine tt 19 hHeld ?_ (hy:=fun w0 hS0=>by obtain ⟨q0,q1,q2,q3,q4,q5,q6,q7,q8,q9,kY,kV,lB,lz⟩:=hS0; go_simp; try with_reducible rfl);refine tt 20 hHeld ?_ (hy:=fun w0 hS0=>by obtain ⟨q0,q1,q2,q3,q4,q5,q6,q7,q8,q9,kY,kV,lB,lz⟩:=hS0; go_simp; try with_reducible rfl);refine tt 21 hHeld ?_ (hy:=fun w0 hS0=>by obtain ⟨q0,q1,q2,q3,q4,q5,q6,q7,q8,q9,kY,kV,lB,lz⟩:=hS0; go_simp; try with_reducible rfl);refine tt 23 hHeld ?_ (hy:=fun w0 hS0=>by obtain ⟨q0,q1,q2,q3,q4,q5,q6,q7,q8,q9,kY,kV,lB,lz⟩:=hS0; go_simp; try with_reducible rfl);refine tt 24 hHeld ?_ (hy:=fun w0 hS0=>by obtain ⟨q0,q1,q2,q3,q4,q5,q6,q7,q8,q9,kY,kV,lB,lz⟩:=hS0; go_simp; try with_reducible rfl);refine tt 25 hHeld ?_ (hy:=fun w0 hS0=>by obtain ⟨q0,q1,q2,q3,q4,q5,q6,q7,q8,q9,kY,kV,lB,lz⟩:=hS0; go_simp; try with_reducible rfl);refine tt 26 hHeld ?_ (hy:=fun w0 hS0=>by obtain ⟨q0,q1,q2,q3,q4,q5,q6,q7,q8,q9,kY,kV,lB,lz⟩:=hS0; go_simp; try with_reducible rfl);refine tt 28 hHeld ?_ (hy:=fun w0 hS0=>by obtain ⟨q0,q1,q2,q3,q4,q5,q6,q7,q8,q9,kY,kV,lB,lz⟩:=hS0; go_simp; try with_reducible rfl);refine tt 29 hHeld ?_ (hy:=fun w0 hS0=>by obtain ⟨q0,q1,q2,q3,q4,q5,q6,q7,q8,q9,kY,kV,lB,lz⟩:=hS0; go_simp; try with_reducible rfl);refine tt 30 hHeld ?_ (hy:=fun w0 hS0=>by obtain ⟨q0,q1,q2,q3,q4,q5,q6,q7,q8,q9,kY,kV,lB,lz⟩:=hS0; go_simp; try with_reducible rfl);refine tt 31 hHeld ?_ (hy:=fun w0 hS0=>by obtain ⟨q0,q1,q2,q3,q4,q5,q6,q7,q8,q9,kY,kV,lB,lz⟩:=hS0; go_simp; try with_reducible rfl)
 refine tt 33 hHeld ?_ (hy:=fun w0 hS0=>by obtain ⟨q0,q1,q2,q3,q4,q5,q6,q7,q8,q9,kY,kV,lB,lz⟩:=hS0; go_simp; try with_reducible rfl);refine tt 34 hHeld ?_ (hy:=fun w0 hS0=>by obtain ⟨q0,q1,q2,q3,q4,q5,q6,q7,q8,q9,kY,kV,lB,lz⟩:=hS0; go_simp; try with_reducible rfl);refine tt 35 hHeld ?_ (hy:=fun w0 hS0=>by obtain ⟨q0,q1,q2,q3,q4,q5,q6,q7,q8,q9,kY,kV,lB,lz⟩:=hS0; go_simp; try with_reducible rfl);refine tt 36 hHeld ?_ (hy:=fun w0 hS0=>by obtain ⟨q0,q1,q2,q3,q4,q5,q6,q7,q8,q9,kY,kV,lB,lz⟩:=hS0; go_simp; try with_reducible rfl);clear HS;generalize hWd:W.drew=W0 at *;clear hWd;refine L7 12 (fun K hK=> ?_);go_wp2_with fail;refine (zj 6 base S.q.bp S.lp W0 (HZ.I.1.L8.below HZ.I.2.2.1) HZ.I.2.1.dl HZ.I.2.1.Jl).mono ?_;rintro e W1 ⟨a1,c1,rfl,hown,hb⟩;have wm:Hid (nU W0.heap.size W1.heap.size (blk a1)∧W0.heap.size≤W1.heap.size):=⟨px hown,hb.size⟩
 have HY:Hid (W1.ownsRow W0.heap.size 148 12 (.slice a1 (S.lp.map (·.1)).length c1) (S.lp.map (·.1)).length (bg.flat (S.lp.map (·.1)))∧W0.heap.size≤W1.heap.size):=⟨hown,hb.size⟩
 have HR:=HY;clear HY;have iP:Hid (cJ w base o S∧S.Fits∧Below w.heap.size w W1∧W1.heap[w.heap.size]? =some (.cells ar 48 (0,0))∧w.heap.size < W0.heap.size):=⟨HZ.I.1,HZ.I.2.1,HZ.I.2.2.1.trans (hb.mono HZ.I.2.2.1.size),(hb.block _ (J2.1 HZ.I.2.2.2.1).1).trans HZ.I.2.2.2.1,HZ.I.2.2.2.2⟩
 clear HZ hown hb;have HZ:=iP;clear iP hHeld;refine hK.out _ _ (kP (HZ.I.1.opn.below HZ.I.2.2.1)) (fun hHeld=> ?_);clear hK K
 try simp only [KZ,K0,K1,Act.put,Qr,Ln,Lo]
 refine L7 17 (fun K hK=> ?_);go_wp2_with fail;refine (AN 5 base S.q.bs S.ls W1 (HZ.I.1.aj.below HZ.I.2.2.1) HZ.I.2.1.fx HZ.I.2.1.wSem).mono ?_;rintro e W2 ⟨a2,c2,rfl,hown,hb⟩;have xD:Hid (nU W1.heap.size W2.heap.size (blk a2)∧W1.heap.size≤W2.heap.size):=⟨px hown,hb.size⟩
 have HY:Hid (W2.ownsRow W0.heap.size 148 12 (.slice a1 (S.lp.map (·.1)).length c1) (S.lp.map (·.1)).length (bg.flat (S.lp.map (·.1)))∧W2.ownsRow W1.heap.size 184 3 (.slice a2 (S.ls.map (·.1)).length c2) (S.ls.map (·.1)).length (dm.flat (S.ls.map (·.1)))∧W0.heap.size≤W1.heap.size∧W1.heap.size≤W2.heap.size):=⟨cR HR.I.1 hb,hown,HR.I.2,hb.size⟩
 clear HR;have HR:=HY;clear HY;have iP:Hid (cJ w base o S∧S.Fits∧Below w.heap.size w W2∧W2.heap[w.heap.size]? =some (.cells ar 48 (0,0))∧w.heap.size < W0.heap.size):=⟨HZ.I.1,HZ.I.2.1,HZ.I.2.2.1.trans (hb.mono HZ.I.2.2.1.size),(hb.block _ (J2.1 HZ.I.2.2.2.1).1).trans HZ.I.2.2.2.1,HZ.I.2.2.2.2⟩
 clear HZ hown hb;have HZ:=iP;clear iP hHeld;refine hK.out _ _ (kP (HZ.I.1.opn.below HZ.I.2.2.1)) (fun hHeld=> ?_);clear hK K
 try simp only [KZ,K0,K1,Act.put,Qr,Ln,Lo]
 refine L7 22 (fun K hK=> ?_);go_wp2_with fail;refine (wN 5 base S.q.be S.le W2 (HZ.I.1.L9.below HZ.I.2.2.1) HZ.I.2.1.cD HZ.I.2.1.G4).mono ?_;rintro e W3 ⟨a3,c3,rfl,hown,hb⟩;have Fz:Hid (nU W2.heap.size W3.heap.size (blk a3)∧W2.heap.size≤W3.heap.size):=⟨px hown,hb.size⟩
 have HY:Hid (W3.ownsRow W0.heap.size 148 12 (.slice a1 (S.lp.map (·.1)).length c1) (S.lp.map (·.1)).length (bg.flat (S.lp.map (·.1)))∧W3.ownsRow W1.heap.size 184 3 (.slice a2 (S.ls.map (·.1)).length c2) (S.ls.map (·.1)).length (dm.flat (S.ls.map (·.1)))∧W3.ownsRow W2.heap.size 187 2 (.slice a3 (S.le.map (·.1)).length c3) (S.le.map (·.1)).length (bJ.flat (S.le.map (·.1)))∧W0.heap.size≤W1.heap.size∧W1.heap.size≤W2.heap.size∧W2.heap.size≤W3.heap.size):=⟨cR HR.I.1 hb,cR HR.I.2.1 hb,hown,HR.I.2.2.1,HR.I.2.2.2,hb.size⟩
 clear HR;have HR:=HY;clear HY;have iP:Hid (cJ w base o S∧S.Fits∧Below w.heap.size w W3∧W3.heap[w.heap.size]? =some (.cells ar 48 (0,0))∧w.heap.size < W0.heap.size):=⟨HZ.I.1,HZ.I.2.1,HZ.I.2.2.1.trans (hb.mono HZ.I.2.2.1.size),(hb.block _ (J2.1 HZ.I.2.2.2.1).1).trans HZ.I.2.2.2.1,HZ.I.2.2.2.2⟩
 clear HZ hown hb;have HZ:=iP;clear iP hHeld;refine hK.out _ _ (kP (HZ.I.1.opn.below HZ.I.2.2.1)) (fun hHeld=> ?_);clear hK K
 try simp only [KZ,K0,K1,Act.put,Qr,Ln,Lo]
 refine L7 27 (fun K hK=> ?_);go_wp2_with fail;refine (wC 5 base S.q.bb S.lb W3 (HZ.I.1.ag.below HZ.I.2.2.1) HZ.I.2.1.cC HZ.I.2.1.FP).mono ?_;rintro e W4 ⟨a4,c4,rfl,hown,hb⟩;have FA:Hid (nU W3.heap.size W4.heap.size (blk a4)∧W3.heap.size≤W4.heap.size):=⟨px hown,hb.size⟩
 have HY:Hid (W4.ownsRow W0.heap.size 148 12 (.slice a1 (S.lp.map (·.1)).length c1) (S.lp.map (·.1)).length (bg.flat (S.lp.map (·.1)))∧W4.ownsRow W1.heap.size 184 3 (.slice a2 (S.ls.map (·.1)).length c2) (S.ls.map (·.1)).length (dm.flat (S.ls.map (·.1)))∧W4.ownsRow W2.heap.size 187 2 (.slice a3 (S.le.map (·.1)).length c3) (S.le.map (·.1)).length (bJ.flat (S.le.map (·.1)))∧W4.ownsRow W3.heap.size 190 3 (.slice a4 (S.lb.map (·.1)).length c4) (S.lb.map (·.1)).length (bG.flat (S.lb.map (·.1)))∧W0.heap.size≤W1.heap.size∧W1.heap.size≤W2.heap.size∧W2.heap.size≤W3.heap.size∧W3.heap.size≤W4.heap.size):=⟨cR HR.I.1 hb,cR HR.I.2.1 hb,cR HR.I.2.2.1 hb,hown,HR.I.2.2.2.1,HR.I.2.2.2.2.1,HR.I.2.2.2.2.2,hb.size⟩
 clear HR;have HR:=HY;clear HY;have iP:Hid (cJ w base o S∧S.Fits∧Below w.heap.size w W4∧W4.heap[w.heap.size]? =some (.cells ar 48 (0,0))∧w.heap.size < W0.heap.size):=⟨HZ.I.1,HZ.I.2.1,HZ.I.2.2.1.trans (hb.mono HZ.I.2.2.1.size),(hb.block _ (J2.1 HZ.I.2.2.2.1).1).trans HZ.I.2.2.2.1,HZ.I.2.2.2.2⟩
 clear HZ hown hb;have HZ:=iP;clear iP hHeld;refine hK.out _ _ (kP (HZ.I.1.opn.below HZ.I.2.2.1)) (fun hHeld=> ?_);clear hK K
 try simp only [KZ,K0,K1,Act.put,Qr,Ln,Lo]
 refine L7 32 (fun K hK=> ?_);go_wp2_with fail;refine (uk 5 base S.q.bf S.lf W4 (HZ.I.1.ae.below HZ.I.2.2.1) HZ.I.2.1.cb HZ.I.2.1.DW).mono ?_;rintro e W5 ⟨a5,c5,rfl,hown,hb⟩;have Ik:Hid (nU W4.heap.size W5.heap.size (blk a5)∧W4.heap.size≤W5.heap.size):=⟨px hown,hb.size⟩
 have HY:Hid (W5.ownsRow W0.heap.size 148 12 (.slice a1 (S.lp.map (·.1)).length c1) (S.lp.map (·.1)).length (bg.flat (S.lp.map (·.1)))∧W5.ownsRow W1.heap.size 184 3 (.slice a2 (S.ls.map (·.1)).length c2) (S.ls.map (·.1)).length (dm.flat (S.ls.map (·.1)))∧W5.ownsRow W2.heap.size 187 2 (.slice a3 (S.le.map (·.1)).length c3) (S.le.map (·.1)).length (bJ.flat (S.le.map (·.1)))∧W5.ownsRow W3.heap.size 190 3 (.slice a4 (S.lb.map (·.1)).length c4) (S.lb.map (·.1)).length (bG.flat (S.lb.map (·.1)))∧W5.ownsRow W4.heap.size 160 3 (.slice a5 (S.lf.map (·.1)).length c5) (S.lf.map (·.1)).length (bm.flat (S.lf.map (·.1)))∧W0.heap.size≤W1.heap.size∧W1.heap.size≤W2.heap.size∧W2.heap.size≤W3.heap.size∧W3.heap.size≤W4.heap.size∧W4.heap.size≤W5.heap.size):=⟨cR HR.I.1 hb,cR HR.I.2.1 hb,cR HR.I.2.2.1 hb,cR HR.I.2.2.2.1 hb,hown,HR.I.2.2.2.2.1,HR.I.2.2.2.2.2.1,HR.I.2.2.2.2.2.2.1,HR.I.2.2.2.2.2.2.2,hb.size⟩
 clear HR;have HR:=HY;clear HY;have iP:Hid (cJ w base o S∧S.Fits∧Below w.heap.size w W5∧W5.heap[w.heap.size]? =some (.cells ar 48 (0,0))∧w.heap.size < W0.heap.size):=⟨HZ.I.1,HZ.I.2.1,HZ.I.2.2.1.trans (hb.mono HZ.I.2.2.1.size),(hb.block _ (J2.1 HZ.I.2.2.2.1).1).trans HZ.I.2.2.2.1,HZ.I.2.2.2.2⟩
 clear HZ hown hb;have HZ:=iP;clear iP hHeld;refine hK.out _ _ (kP (HZ.I.1.opn.below HZ.I.2.2.1)) (fun hHeld=> ?_);clear hK K
 try simp only [KZ,K0,K1,Act.put,Qr,Ln,Lo]
 refine L7 37 (fun K hK=> ?_);go_wp2_with fail;refine (zf 5 base S.q.bq S.lq W5 (HZ.I.1.ai.below HZ.I.2.2.1) HZ.I.2.1.dH HZ.I.2.1.Jz).mono ?_;rintro e W6 ⟨a6,c6,rfl,hown,hb⟩;have Jw:Hid (nU W5.heap.size W6.heap.size (blk a6)∧W5.heap.size≤W6.heap.size):=⟨px hown,hb.size⟩
 have HY:Hid (W6.ownsRow W0.heap.size 148 12 (.slice a1 (S.lp.map (·.1)).length c1) (S.lp.map (·.1)).length (bg.flat (S.lp.map (·.1)))∧W6.ownsRow W1.heap.size 184 3 (.slice a2 (S.ls.map (·.1)).length c2) (S.ls.map (·.1)).length (dm.flat (S.ls.map (·.1)))∧W6.ownsRow W2.heap.size 187 2 (.slice a3 (S.le.map (·.1)).length c3) (S.le.map (·.1)).length (bJ.flat (S.le.map (·.1)))∧W6.ownsRow W3.heap.size 190 3 (.slice a4 (S.lb.map (·.1)).length c4) (S.lb.map (·.1)).length (bG.flat (S.lb.map (·.1)))∧W6.ownsRow W4.heap.size 160 3 (.slice a5 (S.lf.map (·.1)).length c5) (S.lf.map (·.1)).length (bm.flat (S.lf.map (·.1)))∧W6.ownsRow W5.heap.size 85 5 (.slice a6 (S.lq.map (·.1)).length c6) (S.lq.map (·.1)).length (bX.flat (S.lq.map (·.1)))∧W0.heap.size≤W1.heap.size∧W1.heap.size≤W2.heap.size∧W2.heap.size≤W3.heap.size∧W3.heap.size≤W4.heap.size∧W4.heap.size≤W5.heap.size∧W5.heap.size≤W6.heap.size):=⟨cR HR.I.1 hb,cR HR.I.2.1 hb,cR HR.I.2.2.1 hb,cR HR.I.2.2.2.1 hb,cR HR.I.2.2.2.2.1 hb,hown,HR.I.2.2.2.2.2.1,HR.I.2.2.2.2.2.2.1,HR.I.2.2.2.2.2.2.2.1,HR.I.2.2.2.2.2.2.2.2.1,HR.I.2.2.2.2.2.2.2.2.2,hb.size⟩
 clear HR;have HR:=HY;clear HY;have iP:Hid (cJ w base o S∧S.Fits∧Below w.heap.size w W6∧W6.heap[w.heap.size]? =some (.cells ar 48 (0,0))∧w.heap.size < W0.heap.size):=⟨HZ.I.1,HZ.I.2.1,HZ.I.2.2.1.trans (hb.mono HZ.I.2.2.1.size),(hb.block _ (J2.1 HZ.I.2.2.2.1).1).trans HZ.I.2.2.2.1,HZ.I.2.2.2.2⟩
 clear HZ hown hb;have HZ:=iP;clear iP hHeld;refine hK.out _ _ (kP (HZ.I.1.opn.below HZ.I.2.2.1)) (fun hHeld=> ?_);clear hK K
 try simp only [KZ,K0,K1,Act.put,Qr,Ln,Lo]
 refine wpAnyH_take (i:=38) (v:= .agg #[.int .i64 S.q.id,.int .i64 S.q.next,.slice a1 S.lp.length c1,.slice a2 S.ls.length c2,.slice a3 S.le.length c3,.slice a4 S.lb.length c4,.slice a5 S.lf.length c5,.slice a6 S.lq.length c6]) rfl (by kernel_rfl) (by kernel_rfl) (by kernel_rfl) (fun _ _ _ h=>h) (Or.inl ⟨by kernel_rfl,?_⟩) hHeld ?_
 ·intro w0 hS0
  go_simp
  try with_reducible rfl
 simp only [KZ,K0,K1,Act.put,Qr,Ln,Lo];refine L7 39 (fun K hK=> ?_);refine qd _ _ _ rfl w.heap.size _ _ #[.int .i64 S.q.id,.int .i64 S.q.next,.slice a1 S.lp.length c1,.slice a2 S.ls.length c2,.slice a3 S.le.length c3,.slice a4 S.lb.length c4,.slice a5 S.lf.length c5,.slice a6 S.lq.length c6] rfl rfl HZ.I.2.2.2.1 (by kernel_rfl) rfl (by simp [Value.oneCell']) ?_;have p7:o < w.heap.size:=(J2.1 HZ.I.1.opn).1;have hbs:Below w.heap.size w (W6.setRow w.heap.size #[.int .i64 S.q.id,.int .i64 S.q.next,.slice a1 S.lp.length c1,.slice a2 S.ls.length c2,.slice a3 S.le.length c3,.slice a4 S.lb.length c4,.slice a5 S.lf.length c5,.slice a6 S.lq.length c6]):=kz HZ.I.2.2.1 (Ki _) _;refine hK.out _ _ (kP (HZ.I.1.opn.below hbs)) (fun hHeld=> ?_);clear hK K hHeld;refine wpAnyH_done (by kernel_rfl) ?_ _
 repeat (first | go_values | go_skip | go_guarded | go_step | go_upon)
 refine gZ Tryz.results47 HZ.I.2.2.2.1 ?_;have hA:=HZ.I.1;have kj:=HZ.I.2.2.1;have hlo:=hA.low;have hw0:=HZ.I.2.2.2.2;have t1:=wm.I.2;have t2:=xD.I.2;have t3:=Fz.I.2;have t4:=FA.I.2;have t5:=Ik.I.2;have t6:=Jw.I.2;have hmP: ∀ q∈S.lp,aR.cO W6 base q.1:=fun q hq=>(hA.eI q hq).same fun g hk=>kj.block g ((hA.eI q hq).lt hk).2
 have hmF: ∀ q∈S.lf,aC.cO W6 base q.1:=fun q hq=>(hA.eE q hq).same fun g hk=>kj.block g ((hA.eE q hq).lt hk).2
 have hmQ: ∀ q∈S.lq,aU.cO W6 base q.1:=fun q hq=>(hA.eR q hq).same fun g hk=>kj.block g ((hA.eR q hq).lt hk).2
 have hkn:S.kids.Nodup:=(Kf.1 (List.nodup_cons.1 hA.nodup).2).2.1;have hkl: ∀ g∈S.kids,g < w.heap.size:=fun g hg=>by
  simp only [aZ.kids,Kg,kids,List.mem_filterMap] at hg;rcases hg with ⟨q,hq,hk⟩ | ⟨q,hq,hk⟩ | ⟨q,hq,hk⟩
  ·exact ((hA.eI q hq).lt hk).2
  ·exact ((hA.eE q hq).lt hk).2
  ·exact ((hA.eR q hq).lt hk).2
 have VU:(S.lp.map (·.1)).filterMap aR.bt=kids aR S.lp:=by rw [List.filterMap_map]; rfl
 have eF:(S.lf.map (·.1)).filterMap aC.bt=kids aC S.lf:=by rw [List.filterMap_map]; rfl
 have eQ:(S.lq.map (·.1)).filterMap aU.bt=kids aU S.lq:=by rw [List.filterMap_map]; rfl
 have hown:ap W6 base (⟨S.q.id,S.q.next,S.lp.map (·.1),a1,c1,S.ls.map (·.1),a2,c2,S.le.map (·.1),a3,c3,S.lb.map (·.1),a4,c4,S.lf.map (·.1),a5,c5,S.lq.map (·.1),a6,c6⟩:af):=by
  refine ⟨cq HR.I.1 (by omega),cq HR.I.2.1 (by omega),cq HR.I.2.2.1 (by omega),cq HR.I.2.2.2.1 (by omega),cq HR.I.2.2.2.2.1 (by omega),cq HR.I.2.2.2.2.2.1 (by omega),?_,?_,?_,?_⟩
  ·intro x hx
   obtain ⟨q,hq,rfl⟩:=Lr.1 hx;exact hmP q hq
  ·intro x hx
   obtain ⟨q,hq,rfl⟩:=Lr.1 hx;exact hmF q hq
  ·intro x hx
   obtain ⟨q,hq,rfl⟩:=Lr.1 hx;exact hmQ q hq
  ·simp only [af.Mc,VU,eF,eQ]
   exact Dv (N:=W0.heap.size) hkn (fun g hg=>by have:=hkl g hg; omega) wm.I.1 xD.I.1 Fz.I.1 FA.I.1 Ik.I.1 Jw.I.1 ⟨t1,t2,t3,t4,t5,t6⟩
 have hne: ∀ g∈(⟨S.q.id,S.q.next,S.lp.map (·.1),a1,c1,S.ls.map (·.1),a2,c2,S.le.map (·.1),a3,c3,S.lb.map (·.1),a4,c4,S.lf.map (·.1),a5,c5,S.lq.map (·.1),a6,c6⟩:af).Mc,g≠w.heap.size:=fun g hg e=>by
  simp only [af.Mc,VU,eF,eQ,Kg] at hg;have hk: ∀ g,(g∈kids aR S.lp∨g∈kids aC S.lf∨g∈kids aU S.lq)→g < w.heap.size:=fun g h5=>hkl g (by simp only [aZ.kids,Kg]; exact h5)
  rcases hg with hg | hg | hg | hg | hg | hg | hg | hg | hg
  ·have:=(wm.I.1.2 g hg).1; omega
  ·have:=hk g (.inl hg); omega
  ·have:=(xD.I.1.2 g hg).1; omega
  ·have:=(Fz.I.1.2 g hg).1; omega
  ·have:=(FA.I.1.2 g hg).1; omega
  ·have:=(Ik.I.1.2 g hg).1; omega
  ·have:=hk g (.inr (.inl hg)); omega
  ·have:=(Jw.I.1.2 g hg).1; omega
  ·have:=hk g (.inr (.inr hg)); omega
 exact ⟨(⟨S.q.id,S.q.next,S.lp.map (·.1),a1,c1,S.ls.map (·.1),a2,c2,S.le.map (·.1),a3,c3,S.lb.map (·.1),a4,c4,S.lf.map (·.1),a5,c5,S.lq.map (·.1),a6,c6⟩:af),by simp [af.cells],hown.same fun g hg=>setRow_other _ _ _ _ (hne g hg),by simp [af.pure,aZ.pure,Ls],hbs⟩
end
section
open Go.RowKit
attribute [local go_sem ↓] Kc Kd
def DF (w:World) (a:Option Addr) (l:List ao) (g j:Nat) (VX:Int) (w':World):Prop:=(w'.cell? ⟨g,j * 12+8,none⟩=some (.string (cu (VX+1+1+1+1+1)))∧w'.cell? ⟨g,j * 12+9,none⟩=some (.string (cu (VX+1+1+1+1+1+1))))∧Hid (bg.bU w' a l∧Below w.heap.size w w')
theorem AZ (a:Option Addr) (l:List ao) (cap:Nat) (k:Int) (w:World) (hl:l.length≤1048576) (hk: ∀ x∈l,x.prog.length≤1048576) (h0:1≤k) (h1:k+(aF bj l:Nat)≤90000000) (hr:bg.bU w a (aJ cw bj k l)):
  Calls J3 63 #[.slice a l.length cap,.int .i64 k] w fun e w'=>e= .returned (.int .i64 (k+(aF bj l:Nat)))∧Below w.heap.size w w':=by
 have HR:Hid (bg.bU w a (aJ cw bj k l)∧k+(aF bj l:Nat)≤90000000∧ ∀ x∈l,x.prog.length≤1048576):=⟨hr,h1,hk⟩
 clear hr h1 hk
 go_enter Tryz.func63,Tryz.ntmps63
 go_wp2_with fail
 go_loopw [1,5] (fun q i wr=> ∃ (j:Nat) (m:Int),j≤l.length∧i= .int .i64 j∧q= .int .i64 m∧1≤m∧m≤90000000∧Hid (m=k+(aF bj (l.take j):Nat)∧Below w.heap.size w wr)) (fun _ i _=>l.length - (intOf i).toNat)
 case atStart=>exact ⟨0,k,Nat.zero_le _,rfl,rfl,h0,by have:=HR.I.2.1; omega,⟨by simp [aF],Kp _ _⟩⟩
 case round=>
  obtain ⟨j,m,hj,rfl,rfl,m0,m1,HA⟩:=hrel;by_cases hlt:j < l.length
  ·have i0:(0:Int)≤(j:Int):=by omega
   have i1:(j:Int) < (l.length:Int):=by omega
   obtain ⟨x,hx⟩: ∃ x,l[j]? =some x:=⟨_,List.getElem?_eq_getElem hlt⟩
   have qw:=du (c:=bj) hx;have hup:=gK (c:=bj) hx;have hcx:bj x=2+aF (fun _:dN=>4) x.prog+9:=rfl;have hg:=jK (f:=cw) (c:=bj) (k:=k) hx;rw [← HA.I.1] at hg;have hls:bg.bU wr a (aJ cw bj k l):=HR.I.1.below HA.I.2;obtain ⟨g,ha,hat⟩:=hls.at hg;obtain ⟨m',hm'⟩: ∃ q:Int,q=m+1+1+(aF (fun _:dN=>4) x.prog:Nat):=⟨_,rfl⟩
   have hg2:(aJ cw bj k l)[j]? =some (rI m m' x):=by rw [hg,hm']; rfl
   have c0:wr.cell? ⟨g,j * 12,none⟩=some (.int .i64 (m)):=hat 0 _ rfl;have c1:wr.cell? ⟨g,j * 12+1,none⟩=some (.int .i64 (m+1)):=hat 1 _ rfl;have c2:wr.cell? ⟨g,j * 12+2,none⟩=some (.slice x.aY x.prog.length x.bH):=(hat 2 _ rfl).trans (show some (Value.slice x.aY (aJ fj (fun _=>4) (m+1+1) x.prog).length x.bH)=_ by rw [bE]);have HX:Hid (x.prog.length≤1048576∧m'+9≤90000000∧m'+9=k+(aF bj (l.take (j+1)):Nat)∧fk.bU wr x.aY (aJ fj (fun _=>4) (m+1+1) x.prog)∧(aJ cw bj k l)[j]? =some (rI m m' x)∧m'=m+1+1+(aF (fun _:dN=>4) x.prog:Nat)∧bg.bU wr (some ⟨g,0,none⟩) (aJ cw bj k l)):=⟨HR.I.2.2 x (KA hx),by have:=HR.I.2.1; have:=HA.I.1; omega,by have:=HA.I.1; omega,⟨hls.2 _ (KA hg) (x.aY,fk.flat (aJ fj (fun _=>4) (m+1+1) x.prog)) (List.mem_singleton.2 rfl),fun _ _ r hr=>by cases hr⟩,hg2,hm',ha ▸ hls⟩
   have p1:m'+9≤90000000:=HX.I.2.1;have p0:1≤m':=by omega
   have m2:m+1+1≤90000000:=by omega
   subst ha;clear hx qw hup hcx hg hat hls hg2 hm';go_wp2_with fail;refine (xg x.aY x.prog x.bH (m+1+1) wr HX.I.1 (by omega) (by have:=HX.I.2.1; have:=HX.I.2.2.2.2.2.1; omega) HX.I.2.2.2.1).mono ?_;rintro e v ⟨rfl,hb⟩;rw [← HX.I.2.2.2.2.2.1];have HV:Hid (bg.bU v (some ⟨g,0,none⟩) (aJ cw bj k l)∧Below w.heap.size w v):=⟨HX.I.2.2.2.2.2.2.below hb,HA.I.2.trans (hb.mono HA.I.2.size)⟩
   clear hb c0 c1 c2;obtain ⟨g2,hg2,hat⟩:=HV.I.1.at HX.I.2.2.2.2.1;cases hg2;have c3:v.cell? ⟨g,j * 12+3,none⟩=some (.int .i64 (m')):=hat 3 _ rfl;have c4:v.cell? ⟨g,j * 12+4,none⟩=some (.int .i64 (m'+1)):=hat 4 _ rfl;have c5:v.cell? ⟨g,j * 12+5,none⟩=some (.int .i64 (m'+1+1)):=hat 5 _ rfl;have c6:v.cell? ⟨g,j * 12+6,none⟩=some (.int .i64 (m'+1+1+1)):=hat 6 _ rfl;have c7:v.cell? ⟨g,j * 12+7,none⟩=some (.int .i64 (m'+1+1+1+1)):=hat 7 _ rfl;have c8:v.cell? ⟨g,j * 12+8,none⟩=some (.string (cu (m'+1+1+1+1+1))):=hat 8 _ rfl;have c9:v.cell? ⟨g,j * 12+9,none⟩=some (.string (cu (m'+1+1+1+1+1+1))):=hat 9 _ rfl;have qF:v.cell? ⟨g,j * 12+10,none⟩=some (.int .i64 (m'+1+1+1+1+1+1+1)):=hat 10 _ rfl;have pe:v.cell? ⟨g,j * 12+11,none⟩=some (.int .i64 (m'+1+1+1+1+1+1+1+1)):=hat 11 _ rfl;clear hat;go_wp2_with fail;have HT:Hid (DF w (some ⟨g,0,none⟩) (aJ cw bj k l) g j m' v.drew):=⟨⟨c8,c9⟩,HV.I.1.below (Kp _ _).drew,HV.I.2.drew⟩
   clear c3 c4 c5 c6 c7 c8 c9 qF pe;refine aT (DF w (some ⟨g,0,none⟩) (aJ cw bj k l) g j m') (by kernel_rfl) HT.I ?_
   iterate 6 (refine PI ?_ (hy:=fun w0 hS0=>by obtain ⟨⟨q8,q9⟩,hH⟩:=hS0; go_simp; try with_reducible rfl))
   refine cl (.string (cu (m'+1+1+1+1+1))) 118 #[.int .i64 (m'+1+1+1+1+1)] ?_ ?_ ?_
   ·intro w0 hS0
    obtain ⟨⟨q8,q9⟩,hH⟩:=hS0
    go_simp
    try with_reducible rfl
   ·intro w0 hS0
    refine (fh (m'+1+1+1+1+1) (by omega) (by omega) w0).mono ?_;rintro e w2 ⟨rfl,hb2⟩;exact ⟨rfl,⟨(J1 (hb2.block g (Le hS0.1.1))).trans hS0.1.1,(J1 (hb2.block g (Le hS0.1.1))).trans hS0.1.2⟩,hS0.2.I.1.below hb2,hS0.2.I.2.trans (hb2.mono hS0.2.I.2.size)⟩
   simp only [pt,sb,s0,s1]
   (refine PI ?_ (hy:=fun w0 hS0=>by obtain ⟨⟨q8,q9⟩,hH⟩:=hS0; go_simp; try with_reducible rfl))
   refine bk (by kernel_rfl) ?_ _;intro w1 cm;have wm:Hid (DF w (some ⟨g,0,none⟩) (aJ cw bj k l) g j m' w1.drew):=⟨cm.1,cm.2.I.1.below (Kp _ _).drew,cm.2.I.2.drew⟩
   clear cm HT;have HT:=wm;clear wm;go_wp2_with fail;refine aT (DF w (some ⟨g,0,none⟩) (aJ cw bj k l) g j m') (by kernel_rfl) HT.I ?_
   iterate 6 (refine PI ?_ (hy:=fun w0 hS0=>by obtain ⟨⟨q8,q9⟩,hH⟩:=hS0; go_simp; try with_reducible rfl))
   refine cl (.string (cu (m'+1+1+1+1+1+1))) 118 #[.int .i64 (m'+1+1+1+1+1+1)] ?_ ?_ ?_
   ·intro w0 hS0
    obtain ⟨⟨q8,q9⟩,hH⟩:=hS0
    go_simp
    try with_reducible rfl
   ·intro w0 hS0
    refine (fh (m'+1+1+1+1+1+1) (by omega) (by omega) w0).mono ?_;rintro e w2 ⟨rfl,hb2⟩;exact ⟨rfl,⟨(J1 (hb2.block g (Le hS0.1.1))).trans hS0.1.1,(J1 (hb2.block g (Le hS0.1.1))).trans hS0.1.2⟩,hS0.2.I.1.below hb2,hS0.2.I.2.trans (hb2.mono hS0.2.I.2.size)⟩
   simp only [pt,sb,s0,s1]
   (refine PI ?_ (hy:=fun w0 hS0=>by obtain ⟨⟨q8,q9⟩,hH⟩:=hS0; go_simp; try with_reducible rfl))
   refine bk (by kernel_rfl) ?_ _;intro w1 cm;obtain ⟨g2,hg2,hat⟩:=cm.2.I.1.at HX.I.2.2.2.2.1;cases hg2;have qF:w1.cell? ⟨g,j * 12+10,none⟩=some (.int .i64 (m'+1+1+1+1+1+1+1)):=hat 10 _ rfl;have pe:w1.cell? ⟨g,j * 12+11,none⟩=some (.int .i64 (m'+1+1+1+1+1+1+1+1)):=hat 11 _ rfl;have HZ:Hid (Below w.heap.size w w1):=cm.2.I.2;clear cm hat HT;go_wp2;go_roundw
   case rel=>exact ⟨j+1,m'+9,by omega,by go_num,by go_num,by omega,by omega,⟨HX.I.2.2.1,HZ.I⟩⟩
   case measure=>simp [intOf]; omega
  ·have i1: ¬ (j:Int) < (l.length:Int):=by omega
   have HE:Hid (m=k+(aF bj l:Nat)):=by have h6:=HA.I.1; rw [List.take_of_length_le (by omega)] at h6; exact h6
   go_wp2;go_ret;exact ⟨ck HE.I,HA.I.2⟩
end
end Go.Proofs.YteidkehoekbcaaaGreat
