/- What the proof leans on, part 10. -/
import Derived.Test.YteidkehoekbcaaaGreatOwnC7
import Derived.Test.YteidkehoekbcaaaGreatOwnC8
import Derived.Laws.CopyOwn
set_option maxRecDepth 100000
set_option maxHeartbeats 8000000
open Array renaming getElem?_eq_some_iff->J2
open Function renaming comp_def->Ls
open Go renaming bodyPost_ret->KT,heap_alloc_new->Kj,wpAnyH_done->K3,wp_at_succ->Kd,wp_at_zero->Kc,wp_region_held_drew->Kr
open Go.Proofs.Tryz renaming prog->J3
open Go.RowKit.Below renaming heap_setCell->K6,refl->Kp
open List renaming getElem_cons_succ->K1,getElem_cons_zero->K0,getElem_toArray->KZ,mem_append->Kg,mem_map->Lr,nodup_append->Kf,nodup_cons->Lp,setIfInBounds_toArray->Qr,set_cons_succ->Lo,set_cons_zero->Ln
open Nat renaming le_refl->Ki,zero_add->Li

namespace Go.Proofs.YteidkehoekbcaaaGreat
open Go.RowKit Go.Maps
attribute [local go_sem ↓] Kc Kd
theorem Dv {VO VS VV r1 r2 r3 r4 r5 r6:List Nat} {N n1 n2 n3 n4 n5 n6:Nat} (hk:(VO ++ (VS ++ VV)).Nodup) (hkl: ∀ g∈VO ++ (VS ++ VV),g < N) (h1:nU N n1 r1) (h2:nU n1 n2 r2) (h3:nU n2 n3 r3) (h4:nU n3 n4 r4) (h5:nU n4 n5 r5) (h6:nU n5 n6 r6)
  (e:N≤n1∧n1≤n2∧n2≤n3∧n3≤n4∧n4≤n5∧n5≤n6):(r1 ++ (VO ++ (r2 ++ (r3 ++ (r4 ++ (r5 ++ (VS ++ (r6 ++ VV)))))))).Nodup:=by
 have hp:(r1 ++ (VO ++ (r2 ++ (r3 ++ (r4 ++ (r5 ++ (VS ++ (r6 ++ VV)))))))).Perm ((VO ++ (VS ++ VV)) ++ (r1 ++ (r2 ++ (r3 ++ (r4 ++ (r5 ++ r6)))))):=by
  rw [List.perm_iff_count];intro x;simp only [List.count_append];omega
 rw [hp.nodup_iff,Kf];have hr:nU N n6 (r1 ++ (r2 ++ (r3 ++ (r4 ++ (r5 ++ r6))))):=h1.append (h2.append (h3.append (h4.append (h5.append h6 (by omega) (by omega) (by omega)) (by omega) (by omega) (by omega)) (by omega) (by omega) (by omega)) (by omega) (by omega) (by omega)) (by omega) (by omega) (by omega);refine ⟨hk,hr.1,fun a ha b hb e=> ?_⟩
 have:=hkl a ha
 have:=(hr.2 b hb).1
 omega
theorem px {w:World} {base n size cap:Nat} {e:TypeId} {a:Option Addr} {xs:List Value} (h:w.ownsRow base e size (.slice a n cap) n xs):nU base w.heap.size (blk a):=⟨fN a,fun _ hg=>cf h hg⟩
structure aZ.Fits (S:aZ):Prop where
 dl:S.lp.length≤1048576
 Jl: ∀ p∈RW (fun x:ao=>x.id) S.lp,(Lit.int .i64 p.1).wf=true
 fx:S.ls.length≤1048576
 adG: ∀ p∈RW (fun x:bD=>x.id) S.ls,(Lit.int .i64 p.1).wf=true
 cD:S.le.length≤1048576
 G4: ∀ p∈RW (fun x:aB=>x.id) S.le,(Lit.int .i64 p.1).wf=true
 cC:S.lb.length≤1048576
 FP: ∀ p∈RW (fun x:az=>x.id) S.lb,(Lit.int .i64 p.1).wf=true
 cb:S.lf.length≤1048576
 DW: ∀ p∈RW (fun x:au=>x.id) S.lf,(Lit.int .i64 p.1).wf=true
 dH:S.lq.length≤1048576
 Jz: ∀ p∈RW (fun x:aM=>x.id) S.lq,(Lit.int .i64 p.1).wf=true
abbrev GR (o:Nat) (S:aZ) (w':World):Prop:=w'.cell? ⟨o,0,none⟩=some (.int .i64 S.q.id)∧w'.cell? ⟨o,1,none⟩=some (.int .i64 S.q.next)∧w'.cell? ⟨o,2,none⟩=some (.int .i64 6)∧w'.cell? ⟨o,3,none⟩=some (.map (some S.q.bp))∧w'.cell? ⟨o,4,none⟩=some (.int .i64 5)∧w'.cell? ⟨o,5,none⟩=some (.map (some S.q.bs))∧w'.cell? ⟨o,6,none⟩=some (.int .i64 5)∧w'.cell? ⟨o,7,none⟩=some (.map (some S.q.be))∧w'.cell? ⟨o,8,none⟩=some (.int .i64 5)∧w'.cell? ⟨o,9,none⟩=some (.map (some S.q.bb))∧w'.cell? ⟨o,10,none⟩=some (.int .i64 5)∧w'.cell? ⟨o,11,none⟩=some (.map (some S.q.bf))∧w'.cell? ⟨o,12,none⟩=some (.int .i64 5)∧w'.cell? ⟨o,13,none⟩=some (.map (some S.q.bq))
theorem kP {o:Nat} {S:aZ} {w:World} (h:fa w o S.q):GR o S w:=⟨h.cell 0,h.cell 1,h.cell 2,h.cell 3,h.cell 4,h.cell 5,h.cell 6,h.cell 7,h.cell 8,h.cell 9,h.cell 10,h.cell 11,h.cell 12,h.cell 13⟩
def aaM (w:World) (base:Nat) (S:aZ) (e:Ending) (w':World):Prop:= ∃ r:af,e= .returned (.agg r.cells)∧ap w' base r∧r.pure=S.pure∧Below w.heap.size w w'∧ ∀ g∈r.Mc,g∈S.kids∨w.heap.size≤g
theorem ZZ (o base:Nat) (S:aZ) (w:World) (h:cJ w base o S) (hf:S.Fits):Calls J3 47 #[.pointer (some ⟨o,0,none⟩)] w fun e w'=>aaM w base S e w':=by
 have hb0:Below w.heap.size w (w.alloc (.cells ar 48)):=(Kp _ _).alloc (Ki _) _;have HZ:Hid (cJ w base o S∧S.Fits∧Below w.heap.size w (w.alloc (.cells ar 48)).drew∧(w.alloc (.cells ar 48)).drew.heap[w.heap.size]? =some (.cells ar 48 (0,0))∧w.heap.size < (w.alloc (.cells ar 48)).drew.heap.size):=⟨h,hf,hb0.drew,Kj _ _,by simp⟩
 have HS:Hid (GR o S (w.alloc (.cells ar 48)).drew):=kP (h.opn.below hb0.drew);clear h hf hb0
 go_enter Tryz.func47,Tryz.ntmps47
 go_wp2_with fail;generalize w.alloc (.cells ar 48)=W at *;refine Kr (S:=GR o S) (by kernel_rfl) HS.I (fun hHeld=> ?_);refine tt 0 hHeld ?_;refine tt 1 hHeld ?_;refine tt 2 hHeld ?_;refine tt 3 hHeld ?_;refine tt 4 hHeld ?_;refine tt 5 hHeld ?_;refine tt 6 hHeld ?_;refine tt 7 hHeld ?_;refine tt 8 hHeld ?_;refine tt 9 hHeld ?_;refine tt 10 hHeld ?_;refine tt 11 hHeld ?_;refine tt 13 hHeld ?_;refine tt 14 hHeld ?_;refine tt 15 hHeld ?_;refine tt 16 hHeld ?_;refine tt 18 hHeld ?_;refine tt 19 hHeld ?_;refine tt 20 hHeld ?_;refine tt 21 hHeld ?_;refine tt 23 hHeld ?_;refine tt 24 hHeld ?_;refine tt 25 hHeld ?_;refine tt 26 hHeld ?_;refine tt 28 hHeld ?_;refine tt 29 hHeld ?_;refine tt 30 hHeld ?_;refine tt 31 hHeld ?_;refine tt 33 hHeld ?_;refine tt 34 hHeld ?_;refine tt 35 hHeld ?_;refine tt 36 hHeld ?_;clear HS;generalize hWd:W.drew=W0 at *;clear hWd;refine L7 12 (fun K hK=> ?_);go_wp2_with fail;refine (zj 6 base S.q.bp S.lp W0 (HZ.I.1.L8.below HZ.I.2.2.1) HZ.I.2.1.dl HZ.I.2.1.Jl).mono ?_;rintro e W1 ⟨a1,c1,rfl,hown,hb⟩;have wm:Hid (nU W0.heap.size W1.heap.size (blk a1)∧W0.heap.size≤W1.heap.size):=⟨px hown,hb.size⟩
 have HY:Hid (W1.ownsRow W0.heap.size 148 12 (.slice a1 (S.lp.map (·.1)).length c1) (S.lp.map (·.1)).length (bg.flat (S.lp.map (·.1)))∧W0.heap.size≤W1.heap.size):=⟨hown,hb.size⟩
 have HR:=HY;clear HY;have iP:Hid (cJ w base o S∧S.Fits∧Below w.heap.size w W1∧W1.heap[w.heap.size]? =some (.cells ar 48 (0,0))∧w.heap.size < W0.heap.size):=⟨HZ.I.1,HZ.I.2.1,HZ.I.2.2.1.trans (hb.mono HZ.I.2.2.1.size),(hb.block _ (J2.1 HZ.I.2.2.2.1).1).trans HZ.I.2.2.2.1,HZ.I.2.2.2.2⟩
 clear HZ hown hb;have HZ:=iP;clear iP hHeld;refine hK.out _ _ (kP (HZ.I.1.opn.below HZ.I.2.2.1)) (fun hHeld=> ?_);clear hK K
 try simp only [KZ,K0,K1,Act.put,Qr,Ln,Lo]
 refine L7 17 (fun K hK=> ?_);go_wp2_with fail;refine (AN 5 base S.q.bs S.ls W1 (HZ.I.1.aj.below HZ.I.2.2.1) HZ.I.2.1.fx HZ.I.2.1.adG).mono ?_;rintro e W2 ⟨a2,c2,rfl,hown,hb⟩;have xD:Hid (nU W1.heap.size W2.heap.size (blk a2)∧W1.heap.size≤W2.heap.size):=⟨px hown,hb.size⟩
 have HY:Hid (W2.ownsRow W0.heap.size 148 12 (.slice a1 (S.lp.map (·.1)).length c1) (S.lp.map (·.1)).length (bg.flat (S.lp.map (·.1)))∧W2.ownsRow W1.heap.size 184 3 (.slice a2 (S.ls.map (·.1)).length c2) (S.ls.map (·.1)).length (dm.flat (S.ls.map (·.1)))∧W0.heap.size≤W1.heap.size∧W1.heap.size≤W2.heap.size):=⟨cR HR.I.1 hb,hown,HR.I.2,hb.size⟩
 clear HR;have HR:=HY;clear HY;have iP:Hid (cJ w base o S∧S.Fits∧Below w.heap.size w W2∧W2.heap[w.heap.size]? =some (.cells ar 48 (0,0))∧w.heap.size < W0.heap.size):=⟨HZ.I.1,HZ.I.2.1,HZ.I.2.2.1.trans (hb.mono HZ.I.2.2.1.size),(hb.block _ (J2.1 HZ.I.2.2.2.1).1).trans HZ.I.2.2.2.1,HZ.I.2.2.2.2⟩
 clear HZ hown hb;have HZ:=iP;clear iP hHeld;refine hK.out _ _ (kP (HZ.I.1.opn.below HZ.I.2.2.1)) (fun hHeld=> ?_);clear hK K
 try simp only [KZ,K0,K1,Act.put,Qr,Ln,Lo]
 refine L7 22 (fun K hK=> ?_);go_wp2_with fail;refine (wN 5 base S.q.be S.le W2 (HZ.I.1.L9.below HZ.I.2.2.1) HZ.I.2.1.cD HZ.I.2.1.G4).mono ?_;rintro e W3 ⟨a3,c3,rfl,hown,hb⟩;have Fz:Hid (nU W2.heap.size W3.heap.size (blk a3)∧W2.heap.size≤W3.heap.size):=⟨px hown,hb.size⟩
 have HY:Hid (W3.ownsRow W0.heap.size 148 12 (.slice a1 (S.lp.map (·.1)).length c1) (S.lp.map (·.1)).length (bg.flat (S.lp.map (·.1)))∧W3.ownsRow W1.heap.size 184 3 (.slice a2 (S.ls.map (·.1)).length c2) (S.ls.map (·.1)).length (dm.flat (S.ls.map (·.1)))∧W3.ownsRow W2.heap.size 187 2 (.slice a3 (S.le.map (·.1)).length c3) (S.le.map (·.1)).length (bJ.flat (S.le.map (·.1)))∧W0.heap.size≤W1.heap.size∧W1.heap.size≤W2.heap.size∧W2.heap.size≤W3.heap.size):=⟨cR HR.I.1 hb,cR HR.I.2.1 hb,hown,HR.I.2.2.1,HR.I.2.2.2,hb.size⟩
 clear HR;have HR:=HY;clear HY;have iP:Hid (cJ w base o S∧S.Fits∧Below w.heap.size w W3∧W3.heap[w.heap.size]? =some (.cells ar 48 (0,0))∧w.heap.size < W0.heap.size):=⟨HZ.I.1,HZ.I.2.1,HZ.I.2.2.1.trans (hb.mono HZ.I.2.2.1.size),(hb.block _ (J2.1 HZ.I.2.2.2.1).1).trans HZ.I.2.2.2.1,HZ.I.2.2.2.2⟩
 clear HZ hown hb;have HZ:=iP;clear iP hHeld;refine hK.out _ _ (kP (HZ.I.1.opn.below HZ.I.2.2.1)) (fun hHeld=> ?_);clear hK K
 try simp only [KZ,K0,K1,Act.put,Qr,Ln,Lo]
 refine L7 27 (fun K hK=> ?_);go_wp2_with fail;refine (wC 5 base S.q.bb S.lb W3 (HZ.I.1.ag.below HZ.I.2.2.1) HZ.I.2.1.cC HZ.I.2.1.FP).mono ?_;rintro e W4 ⟨a4,c4,rfl,hown,hb⟩;have FA:Hid (nU W3.heap.size W4.heap.size (blk a4)∧W3.heap.size≤W4.heap.size):=⟨px hown,hb.size⟩
 have HY:Hid (W4.ownsRow W0.heap.size 148 12 (.slice a1 (S.lp.map (·.1)).length c1) (S.lp.map (·.1)).length (bg.flat (S.lp.map (·.1)))∧W4.ownsRow W1.heap.size 184 3 (.slice a2 (S.ls.map (·.1)).length c2) (S.ls.map (·.1)).length (dm.flat (S.ls.map (·.1)))∧W4.ownsRow W2.heap.size 187 2 (.slice a3 (S.le.map (·.1)).length c3) (S.le.map (·.1)).length (bJ.flat (S.le.map (·.1)))∧W4.ownsRow W3.heap.size 190 3 (.slice a4 (S.lb.map (·.1)).length c4) (S.lb.map (·.1)).length (bG.flat (S.lb.map (·.1)))∧W0.heap.size≤W1.heap.size∧W1.heap.size≤W2.heap.size∧W2.heap.size≤W3.heap.size∧W3.heap.size≤W4.heap.size):=⟨cR HR.I.1 hb,cR HR.I.2.1 hb,cR HR.I.2.2.1 hb,hown,HR.I.2.2.2.1,HR.I.2.2.2.2.1,HR.I.2.2.2.2.2,hb.size⟩
 clear HR;have HR:=HY;clear HY;have iP:Hid (cJ w base o S∧S.Fits∧Below w.heap.size w W4∧W4.heap[w.heap.size]? =some (.cells ar 48 (0,0))∧w.heap.size < W0.heap.size):=⟨HZ.I.1,HZ.I.2.1,HZ.I.2.2.1.trans (hb.mono HZ.I.2.2.1.size),(hb.block _ (J2.1 HZ.I.2.2.2.1).1).trans HZ.I.2.2.2.1,HZ.I.2.2.2.2⟩
 clear HZ hown hb;have HZ:=iP;clear iP hHeld;refine hK.out _ _ (kP (HZ.I.1.opn.below HZ.I.2.2.1)) (fun hHeld=> ?_);clear hK K
 try simp only [KZ,K0,K1,Act.put,Qr,Ln,Lo]
 refine L7 32 (fun K hK=> ?_);go_wp2_with fail;refine (uk 5 base S.q.bf S.lf W4 (HZ.I.1.ae.below HZ.I.2.2.1) HZ.I.2.1.cb HZ.I.2.1.DW).mono ?_;rintro e W5 ⟨a5,c5,rfl,hown,hb⟩;have Ik:Hid (nU W4.heap.size W5.heap.size (blk a5)∧W4.heap.size≤W5.heap.size):=⟨px hown,hb.size⟩
 have HY:Hid (W5.ownsRow W0.heap.size 148 12 (.slice a1 (S.lp.map (·.1)).length c1) (S.lp.map (·.1)).length (bg.flat (S.lp.map (·.1)))∧W5.ownsRow W1.heap.size 184 3 (.slice a2 (S.ls.map (·.1)).length c2) (S.ls.map (·.1)).length (dm.flat (S.ls.map (·.1)))∧W5.ownsRow W2.heap.size 187 2 (.slice a3 (S.le.map (·.1)).length c3) (S.le.map (·.1)).length (bJ.flat (S.le.map (·.1)))∧W5.ownsRow W3.heap.size 190 3 (.slice a4 (S.lb.map (·.1)).length c4) (S.lb.map (·.1)).length (bG.flat (S.lb.map (·.1)))∧W5.ownsRow W4.heap.size 160 3 (.slice a5 (S.lf.map (·.1)).length c5) (S.lf.map (·.1)).length (bm.flat (S.lf.map (·.1)))∧W0.heap.size≤W1.heap.size∧W1.heap.size≤W2.heap.size∧W2.heap.size≤W3.heap.size∧W3.heap.size≤W4.heap.size∧W4.heap.size≤W5.heap.size):=⟨cR HR.I.1 hb,cR HR.I.2.1 hb,cR HR.I.2.2.1 hb,cR HR.I.2.2.2.1 hb,hown,HR.I.2.2.2.2.1,HR.I.2.2.2.2.2.1,HR.I.2.2.2.2.2.2.1,HR.I.2.2.2.2.2.2.2,hb.size⟩
 clear HR;have HR:=HY;clear HY;have iP:Hid (cJ w base o S∧S.Fits∧Below w.heap.size w W5∧W5.heap[w.heap.size]? =some (.cells ar 48 (0,0))∧w.heap.size < W0.heap.size):=⟨HZ.I.1,HZ.I.2.1,HZ.I.2.2.1.trans (hb.mono HZ.I.2.2.1.size),(hb.block _ (J2.1 HZ.I.2.2.2.1).1).trans HZ.I.2.2.2.1,HZ.I.2.2.2.2⟩
 clear HZ hown hb;have HZ:=iP;clear iP hHeld;refine hK.out _ _ (kP (HZ.I.1.opn.below HZ.I.2.2.1)) (fun hHeld=> ?_);clear hK K
 try simp only [KZ,K0,K1,Act.put,Qr,Ln,Lo]
 refine L7 37 (fun K hK=> ?_);go_wp2_with fail;refine (zf 5 base S.q.bq S.lq W5 (HZ.I.1.ai.below HZ.I.2.2.1) HZ.I.2.1.dH HZ.I.2.1.Jz).mono ?_;rintro e W6 ⟨a6,c6,rfl,hown,hb⟩;have Jw:Hid (nU W5.heap.size W6.heap.size (blk a6)∧W5.heap.size≤W6.heap.size):=⟨px hown,hb.size⟩
 have HY:Hid (W6.ownsRow W0.heap.size 148 12 (.slice a1 (S.lp.map (·.1)).length c1) (S.lp.map (·.1)).length (bg.flat (S.lp.map (·.1)))∧W6.ownsRow W1.heap.size 184 3 (.slice a2 (S.ls.map (·.1)).length c2) (S.ls.map (·.1)).length (dm.flat (S.ls.map (·.1)))∧W6.ownsRow W2.heap.size 187 2 (.slice a3 (S.le.map (·.1)).length c3) (S.le.map (·.1)).length (bJ.flat (S.le.map (·.1)))∧W6.ownsRow W3.heap.size 190 3 (.slice a4 (S.lb.map (·.1)).length c4) (S.lb.map (·.1)).length (bG.flat (S.lb.map (·.1)))∧W6.ownsRow W4.heap.size 160 3 (.slice a5 (S.lf.map (·.1)).length c5) (S.lf.map (·.1)).length (bm.flat (S.lf.map (·.1)))∧W6.ownsRow W5.heap.size 85 5 (.slice a6 (S.lq.map (·.1)).length c6) (S.lq.map (·.1)).length (bX.flat (S.lq.map (·.1)))∧W0.heap.size≤W1.heap.size∧W1.heap.size≤W2.heap.size∧W2.heap.size≤W3.heap.size∧W3.heap.size≤W4.heap.size∧W4.heap.size≤W5.heap.size∧W5.heap.size≤W6.heap.size):=⟨cR HR.I.1 hb,cR HR.I.2.1 hb,cR HR.I.2.2.1 hb,cR HR.I.2.2.2.1 hb,cR HR.I.2.2.2.2.1 hb,hown,HR.I.2.2.2.2.2.1,HR.I.2.2.2.2.2.2.1,HR.I.2.2.2.2.2.2.2.1,HR.I.2.2.2.2.2.2.2.2.1,HR.I.2.2.2.2.2.2.2.2.2,hb.size⟩
 clear HR;have HR:=HY;clear HY;have iP:Hid (cJ w base o S∧S.Fits∧Below w.heap.size w W6∧W6.heap[w.heap.size]? =some (.cells ar 48 (0,0))∧w.heap.size < W0.heap.size):=⟨HZ.I.1,HZ.I.2.1,HZ.I.2.2.1.trans (hb.mono HZ.I.2.2.1.size),(hb.block _ (J2.1 HZ.I.2.2.2.1).1).trans HZ.I.2.2.2.1,HZ.I.2.2.2.2⟩
 clear HZ hown hb;have HZ:=iP;clear iP hHeld;refine hK.out _ _ (kP (HZ.I.1.opn.below HZ.I.2.2.1)) (fun hHeld=> ?_);clear hK K
 try simp only [KZ,K0,K1,Act.put,Qr,Ln,Lo]
 refine wpAnyH_take (i:=38) (v:= .agg #[.int .i64 S.q.id,.int .i64 S.q.next,.slice a1 S.lp.length c1,.slice a2 S.ls.length c2,.slice a3 S.le.length c3,.slice a4 S.lb.length c4,.slice a5 S.lf.length c5,.slice a6 S.lq.length c6]) rfl (by kernel_rfl) (by kernel_rfl) (by kernel_rfl) (fun _ _ _ h=>h) (Or.inl ⟨by kernel_rfl,?_⟩) hHeld ?_
 ·intro w0 hS0
  go_simp
  try with_reducible rfl
 simp only [KZ,K0,K1,Act.put,Qr,Ln,Lo];refine L7 39 (fun K hK=> ?_);refine qd _ _ _ rfl w.heap.size _ _ #[.int .i64 S.q.id,.int .i64 S.q.next,.slice a1 S.lp.length c1,.slice a2 S.ls.length c2,.slice a3 S.le.length c3,.slice a4 S.lb.length c4,.slice a5 S.lf.length c5,.slice a6 S.lq.length c6] rfl rfl HZ.I.2.2.2.1 (by kernel_rfl) rfl (by simp [Value.oneCell']) ?_;have p7:o < w.heap.size:=(J2.1 HZ.I.1.opn).1;have hbs:Below w.heap.size w (W6.setRow w.heap.size #[.int .i64 S.q.id,.int .i64 S.q.next,.slice a1 S.lp.length c1,.slice a2 S.ls.length c2,.slice a3 S.le.length c3,.slice a4 S.lb.length c4,.slice a5 S.lf.length c5,.slice a6 S.lq.length c6]):=kz HZ.I.2.2.1 (Ki _) _;refine hK.out _ _ (kP (HZ.I.1.opn.below hbs)) (fun hHeld=> ?_);clear hK K hHeld;refine K3 (by kernel_rfl) ?_ _
 repeat (first | go_values | go_skip | go_guarded | go_step | go_upon)
 refine gZ Tryz.results47 HZ.I.2.2.2.1 ?_;have hA:=HZ.I.1;have kj:=HZ.I.2.2.1;have hlo:=hA.low;have hw0:=HZ.I.2.2.2.2;have t1:=wm.I.2;have t2:=xD.I.2;have t3:=Fz.I.2;have t4:=FA.I.2;have t5:=Ik.I.2;have t6:=Jw.I.2;have hmP: ∀ q∈S.lp,aR.cO W6 base q.1:=fun q hq=>(hA.eI q hq).same fun g hk=>kj.block g ((hA.eI q hq).lt hk).2
 have hmF: ∀ q∈S.lf,aC.cO W6 base q.1:=fun q hq=>(hA.eE q hq).same fun g hk=>kj.block g ((hA.eE q hq).lt hk).2
 have hmQ: ∀ q∈S.lq,aU.cO W6 base q.1:=fun q hq=>(hA.eR q hq).same fun g hk=>kj.block g ((hA.eR q hq).lt hk).2
 have hkn:S.kids.Nodup:=(Kf.1 (Lp.1 hA.nodup).2).2.1;have hkl: ∀ g∈S.kids,g < w.heap.size:=fun g hg=>by
  simp only [aZ.kids,Kg,kids,List.mem_filterMap] at hg;rcases hg with ⟨q,hq,hk⟩ | ⟨q,hq,hk⟩ | ⟨q,hq,hk⟩
  ·exact ((hA.eI q hq).lt hk).2
  ·exact ((hA.eE q hq).lt hk).2
  ·exact ((hA.eR q hq).lt hk).2
 have VU:(S.lp.map (·.1)).filterMap aR.bt=kids aR S.lp:=by rw [List.filterMap_map]; rfl
 have eF:(S.lf.map (·.1)).filterMap aC.bt=kids aC S.lf:=by rw [List.filterMap_map]; rfl
 have eQ:(S.lq.map (·.1)).filterMap aU.bt=kids aU S.lq:=by rw [List.filterMap_map]; rfl
 have hown:ap W6 base (⟨S.q.id,S.q.next,S.lp.map (·.1),a1,c1,S.ls.map (·.1),a2,c2,S.le.map (·.1),a3,c3,S.lb.map (·.1),a4,c4,S.lf.map (·.1),a5,c5,S.lq.map (·.1),a6,c6⟩:af):=by
  refine ⟨cq HR.I.1 (by omega),cq HR.I.2.1 (by omega),cq HR.I.2.2.1 (by omega),cq HR.I.2.2.2.1 (by omega),cq HR.I.2.2.2.2.1 (by omega),cq HR.I.2.2.2.2.2.1 (by omega),?_,?_,?_,?_⟩
  ·intro x hx
   obtain ⟨q,hq,rfl⟩:=Lr.1 hx;exact hmP q hq
  ·intro x hx
   obtain ⟨q,hq,rfl⟩:=Lr.1 hx;exact hmF q hq
  ·intro x hx
   obtain ⟨q,hq,rfl⟩:=Lr.1 hx;exact hmQ q hq
  ·simp only [af.Mc,VU,eF,eQ]
   exact Dv (N:=W0.heap.size) hkn (fun g hg=>by have:=hkl g hg; omega) wm.I.1 xD.I.1 Fz.I.1 FA.I.1 Ik.I.1 Jw.I.1 ⟨t1,t2,t3,t4,t5,t6⟩
 have hnk: ∀ g∈(⟨S.q.id,S.q.next,S.lp.map (·.1),a1,c1,S.ls.map (·.1),a2,c2,S.le.map (·.1),a3,c3,S.lb.map (·.1),a4,c4,S.lf.map (·.1),a5,c5,S.lq.map (·.1),a6,c6⟩:af).Mc,g∈S.kids∨w.heap.size < g:=fun g hg=>by
  simp only [af.Mc,VU,eF,eQ,Kg] at hg;have hk: ∀ g,(g∈kids aR S.lp∨g∈kids aC S.lf∨g∈kids aU S.lq)→g∈S.kids:=fun g h5=>by simp only [aZ.kids,Kg]; exact h5
  rcases hg with hg | hg | hg | hg | hg | hg | hg | hg | hg
  ·exact .inr (by have:=(wm.I.1.2 g hg).1; omega)
  ·exact .inl (hk g (.inl hg))
  ·exact .inr (by have:=(xD.I.1.2 g hg).1; omega)
  ·exact .inr (by have:=(Fz.I.1.2 g hg).1; omega)
  ·exact .inr (by have:=(FA.I.1.2 g hg).1; omega)
  ·exact .inr (by have:=(Ik.I.1.2 g hg).1; omega)
  ·exact .inl (hk g (.inr (.inl hg)))
  ·exact .inr (by have:=(Jw.I.1.2 g hg).1; omega)
  ·exact .inl (hk g (.inr (.inr hg)))
 have hne: ∀ g∈(⟨S.q.id,S.q.next,S.lp.map (·.1),a1,c1,S.ls.map (·.1),a2,c2,S.le.map (·.1),a3,c3,S.lb.map (·.1),a4,c4,S.lf.map (·.1),a5,c5,S.lq.map (·.1),a6,c6⟩:af).Mc,g≠w.heap.size:=fun g hg e=>by
  rcases hnk g hg with h5 | h5
  ·have:=hkl g h5; omega
  ·omega
 exact ⟨(⟨S.q.id,S.q.next,S.lp.map (·.1),a1,c1,S.ls.map (·.1),a2,c2,S.le.map (·.1),a3,c3,S.lb.map (·.1),a4,c4,S.lf.map (·.1),a5,c5,S.lq.map (·.1),a6,c6⟩:af),by simp [af.cells],hown.same fun g hg=>setRow_other _ _ _ _ (hne g hg),by simp [af.pure,aZ.pure,Ls],hbs,fun g hg=>(hnk g hg).imp_right Nat.le_of_lt⟩
end Go.Proofs.YteidkehoekbcaaaGreat

namespace Go.Proofs.YteidkehoekbcaaaGreat
open Go.RowKit Go.Maps
attribute [local go_sem ↓] Kc Kd
theorem UI (m:Int) (a:Option Addr) (l:List pA) (cap:Nat) (w:World) (hl:l.length≤1048576) (hc:jq.ep w a l):
  Calls J3 38 #[.agg #[.int .i64 m,.slice a l.length cap]] w fun e w'=> ∃ g,e= .returned (.agg #[.int .i64 m,.slice (some ⟨g,0,none⟩) l.length l.length])∧w'.ownsRow (w.heap.size+1) 100 3 (.slice (some ⟨g,0,none⟩) l.length l.length) l.length (jq.flat l)∧w.heap.size < g∧g < w'.heap.size∧Below w.heap.size w w':=by
 have hb0:Below w.heap.size w (((w.alloc (.cells #[.int .i64 m,.slice a l.length cap] 24)).alloc (.cells #[.int .i64 0,.slice none 0 0] 33)).alloc (.cells #[.int .i64 m,.slice none 0 0] 33)):=(((Kp _ w).alloc (Ki _) _).alloc (by simp) _).alloc (by simp; omega) _;have HX:Hid ((((w.alloc (.cells #[.int .i64 m,.slice a l.length cap] 24)).alloc (.cells #[.int .i64 0,.slice none 0 0] 33)).alloc (.cells #[.int .i64 m,.slice none 0 0] 33)).heap[w.heap.size+1]? =some (.cells #[.int .i64 0,.slice none 0 0] 33 (0,0))∧(((w.alloc (.cells #[.int .i64 m,.slice a l.length cap] 24)).alloc (.cells #[.int .i64 0,.slice none 0 0] 33)).alloc (.cells #[.int .i64 m,.slice none 0 0] 33)).heap[w.heap.size+1+1]? =some (.cells #[.int .i64 m,.slice none 0 0] 33 (0,0))∧(((w.alloc (.cells #[.int .i64 m,.slice a l.length cap] 24)).alloc (.cells #[.int .i64 0,.slice none 0 0] 33)).alloc (.cells #[.int .i64 m,.slice none 0 0] 33)).heap.size=w.heap.size+1+1+1):=by
  refine ⟨?_,?_,by simp⟩
  ·refine (Below.heap_alloc _ _ _ (by simp)).trans ?_
   simpa using Kj (w.alloc (.cells #[.int .i64 m,.slice a l.length cap] 24)) (.cells #[.int .i64 0,.slice none 0 0] 33)
  ·simpa using Kj ((w.alloc (.cells #[.int .i64 m,.slice a l.length cap] 24)).alloc (.cells #[.int .i64 0,.slice none 0 0] 33)) (.cells #[.int .i64 m,.slice none 0 0] 33)
 have HB:=aA hb0;have Mb:=Vd a l cap _ hl (hc.below hb0);clear hc hb0 hl
 go_enter Tryz.func38,Tryz.ntmps38
 go_wp2_with fail;generalize ((w.alloc (.cells #[.int .i64 m,.slice a l.length cap] 24)).alloc (.cells #[.int .i64 0,.slice none 0 0] 33)).alloc (.cells #[.int .i64 m,.slice none 0 0] 33)=W at *;refine Mb.mono ?_;clear Mb;rintro e w1 ⟨rfl,hown,hb1⟩;have hsz:=HX.I.2.2;have y1:w1.heap[w.heap.size+1]? =some (.cells #[.int .i64 0,.slice none 0 0] 33 (0,0)):=(hb1.block _ (by omega)).trans HX.I.1;have y2:w1.heap[w.heap.size+1+1]? =some (.cells #[.int .i64 m,.slice none 0 0] 33 (0,0)):=(hb1.block _ (by omega)).trans HX.I.2.1;have HM:Hid (w1.ownsRow W.heap.size 100 3 (.slice (some ⟨W.heap.size,0,none⟩) l.length l.length) l.length (jq.flat l)∧Below w.heap.size w w1∧W.heap.size < w1.heap.size):=⟨hown,HB.I.trans (hb1.mono HB.I.size),by
  rcases hown.2 with h | ⟨g,c,cur,hv,-,hg,-⟩
  ·cases h.1
  ·cases hv
   exact (J2.1 hg).1⟩
 have t0:w1.cell? ⟨w.heap.size+1+1,0,none⟩=some (.int .i64 m):=by simp [World.cell?,y2]
 have t1:w1.cell? ⟨w.heap.size+1+1,1,none⟩=some (.slice none 0 0):=by simp [World.cell?,y2]
 have u0:w1.frozen? ⟨w.heap.size+1+1,0,none⟩=false:=by simp [World.frozen?,y2]
 have u1:w1.frozen? ⟨w.heap.size+1+1,1,none⟩=false:=by simp [World.frozen?,y2]
 have v0:w1.cell? ⟨w.heap.size+1,0,none⟩=some (.int .i64 0):=by simp [World.cell?,y1]
 have v1:w1.cell? ⟨w.heap.size+1,1,none⟩=some (.slice none 0 0):=by simp [World.cell?,y1]
 have p0:w1.frozen? ⟨w.heap.size+1,0,none⟩=false:=by simp [World.frozen?,y1]
 have p1:w1.frozen? ⟨w.heap.size+1,1,none⟩=false:=by simp [World.frozen?,y1]
 clear y1 y2 hown hb1 hsz
 dsimp only
 go_wp2;refine KT (v:= .agg #[.int .i64 m,.slice (some ⟨W.heap.size,0,none⟩) l.length l.length]) (by simp [results,Tryz.results38,go_sem, *]) rfl ?_;have hsz:=HX.I.2.2;have h7:Below w.heap.size w (bn (bn w1 (w.heap.size+1+1) 1 [.slice (some ⟨W.heap.size,0,none⟩) l.length l.length]) (w.heap.size+1) 0 [.int .i64 m,.slice (some ⟨W.heap.size,0,none⟩) l.length l.length]):=eU _ (by omega) (eU _ (by omega) HM.I.2.1);have h8:(bn (bn w1 (w.heap.size+1+1) 1 [.slice (some ⟨W.heap.size,0,none⟩) l.length l.length]) (w.heap.size+1) 0 [.int .i64 m,.slice (some ⟨W.heap.size,0,none⟩) l.length l.length]).ownsRow W.heap.size 100 3 (.slice (some ⟨W.heap.size,0,none⟩) l.length l.length) l.length (jq.flat l):=aL HM.I.1 fun g hg=>by
  have hg2:g=W.heap.size:=by simpa [blk] using hg
  exact (de _ (by omega)).trans (de _ (by omega))
 have h9:(bn (bn w1 (w.heap.size+1+1) 1 [.slice (some ⟨W.heap.size,0,none⟩) l.length l.length]) (w.heap.size+1) 0 [.int .i64 m,.slice (some ⟨W.heap.size,0,none⟩) l.length l.length]).heap.size=w1.heap.size:=by rw [fH,fH]
 have h10:=cq h8 (show w.heap.size+1≤W.heap.size by omega);simp only [bn,Li] at h7 h9 h10;exact ⟨W.heap.size,rfl,h10,by omega,by rw [h9]; exact HM.I.2.2,h7⟩
abbrev T9:Array Value:= #[.int .i64 0,.int .i64 0,.slice none 0 0,.slice none 0 0,.slice none 0 0]
structure Vs (w:World) (k:eA) (cur:Array Value) (F:World→Prop) (W:World):Prop where
 src:W.heap[w.heap.size]? =some (.cells k.row 28 (0,0))
 res:W.heap[w.heap.size+1]? =some (.cells T9 37 (0,0))
 var:W.heap[w.heap.size+1+1]? =some (.cells cur 37 (0,0))
 cd:Below w.heap.size w W
 keep:fV (w.heap.size+1+1+1) F W
section
variable {w W W2:World} {k:eA} {cur:Array Value} {F G:World→Prop}
theorem Vs.lt (h:Vs w k cur F W):w.heap.size+1+1 < W.heap.size:=(J2.1 h.var).1
theorem Vs.call (h:Vs w k cur F W) (hb:Below W.heap.size W W2) (hg:fV (w.heap.size+1+1+1) G W2):Vs w k cur (fun V=>F V∧G V) W2:=by
 have hl:=h.lt;exact ⟨(hb.block _ (by omega)).trans h.src,(hb.block _ (by omega)).trans h.res,(hb.block _ (by omega)).trans h.var,h.cd.trans (hb.mono h.cd.size),fun V hs hz=>⟨(h.keep.step (fun g _ h2=>hb.block g h2) hb.size) V hs hz,hg V hs hz⟩⟩
theorem Vs.set (h:Vs w k cur F W) (i:Nat) (v:Value):Vs w k (cur.setIfInBounds i v) F (W.setCell ⟨w.heap.size+1+1,i,none⟩ v):=
 ⟨(K6 W _ v _ (by show ¬ w.heap.size=w.heap.size+1+1; omega)).trans h.src,(K6 W _ v _ (by show ¬ w.heap.size+1=w.heap.size+1+1; omega)).trans h.res,heap_setCell_same W _ i cur _ v h.var,h.cd.setCell (by show w.heap.size≤w.heap.size+1+1; omega) v,h.keep.step (fun g h1 _=>K6 W _ v _ (by show ¬ g=w.heap.size+1+1; omega)) (by simp [World.setCell])⟩
end
structure gp (w:World) (base:Nat) (k:eA):Prop where
 fn:w.ownsRow base 100 3 (.slice k.vb k.fn.length k.Te) k.fn.length (jq.flat k.fn)
 parts:w.ownsRow base 48 8 (.slice k.qn k.parts.length k.sa) k.parts.length (kp.flat k.parts)
 eC:w.ownsRow base 80 4 (.slice k.qi k.eC.length k.tC) k.eC.length (hM.flat k.eC)
 mine: ∀ p∈k.parts,ap w base p
 nodup:(blk k.vb ++ (blk k.qn ++ (blk k.qi ++ k.parts.flatMap af.Mc))).Nodup
theorem xb (k:eA) (w:World) (hs:k.yq) (hc:k.ep w):
  Calls J3 10 #[.agg k.row] w fun e w'=> ∃ (k':eA) (g:Nat),e= .returned (.agg k'.row)∧gp w' w.heap.size k'∧k'.pure=k.pure∧(k'.vb=some ⟨g,0,none⟩∧g < w'.heap.size)∧Below w.heap.size w w':=by
 have T:Hid (Vs w k #[.int .i64 k.now,.int .i64 0,.slice none 0 0,.slice none 0 0,.slice none 0 0] (fun _=>True) (((w.alloc (.cells k.row 28)).alloc (.cells T9 37)).alloc (.cells #[.int .i64 k.now,.int .i64 0,.slice none 0 0,.slice none 0 0,.slice none 0 0] 37))):=by
  refine ⟨?_,?_,?_,(((Kp _ w).alloc (Ki _) _).alloc (by simp) _).alloc (by simp; omega) _,fun _ _ _=>trivial⟩
  ·exact (Below.heap_alloc _ _ _ (by simp; omega)).trans ((Below.heap_alloc _ _ _ (by simp)).trans (Kj _ _))
  ·refine (Below.heap_alloc _ _ _ (by simp)).trans ?_
   simpa using Kj (w.alloc (.cells k.row 28)) (.cells T9 37)
  ·simpa using Kj ((w.alloc (.cells k.row 28)).alloc (.cells T9 37)) (.cells #[.int .i64 k.now,.int .i64 0,.slice none 0 0,.slice none 0 0,.slice none 0 0] 37)
 have HS:=aA hs;have HC:=aA hc;clear hs hc
 go_enter Tryz.func10,Tryz.ntmps10
 go_wp2_with fail;generalize ((w.alloc (.cells k.row 28)).alloc (.cells T9 37)).alloc (.cells #[.int .i64 k.now,.int .i64 0,.slice none 0 0,.slice none 0 0,.slice none 0 0] 37)=W0 at *;refine (UI k.major k.vb k.fn k.Te W0 HS.I.Ts (HC.I.fn.below T.I.cd)).mono ?_;rintro e v1 ⟨g1,rfl,ho,CT,hl1,hb1⟩;have hlt:=T.I.lt;replace T:=aA (T.I.call hb1 (G:=fun V=>V.ownsRow w.heap.size 100 3 (.slice (some ⟨g1,0,none⟩) k.fn.length k.fn.length) k.fn.length (jq.flat k.fn)∧g1 < V.heap.size) (fun V hs hz=>⟨cq (aL ho fun g hg=>by
  have e:g=g1:=by simpa [blk] using hg
  subst e;exact hs g (by omega) hl1) (by omega),by omega⟩))
 clear ho CT hl1 hb1 hlt;have t0:v1.cell? ⟨w.heap.size+1+1,0,none⟩=some (.int .i64 k.now):=by have:=T.I.var; simp [World.cell?,this]
 have u0:v1.frozen? ⟨w.heap.size+1+1,0,none⟩=false:=by have:=T.I.var; simp [World.frozen?,this]
 have t1:v1.cell? ⟨w.heap.size+1+1,1,none⟩=some (.int .i64 0):=by have:=T.I.var; simp [World.cell?,this]
 have u1:v1.frozen? ⟨w.heap.size+1+1,1,none⟩=false:=by have:=T.I.var; simp [World.frozen?,this]
 have t2:v1.cell? ⟨w.heap.size+1+1,2,none⟩=some (.slice none 0 0):=by have:=T.I.var; simp [World.cell?,this]
 have u2:v1.frozen? ⟨w.heap.size+1+1,2,none⟩=false:=by have:=T.I.var; simp [World.frozen?,this]
 have t3:v1.cell? ⟨w.heap.size+1+1,3,none⟩=some (.slice none 0 0):=by have:=T.I.var; simp [World.cell?,this]
 have u3:v1.frozen? ⟨w.heap.size+1+1,3,none⟩=false:=by have:=T.I.var; simp [World.frozen?,this]
 have t4:v1.cell? ⟨w.heap.size+1+1,4,none⟩=some (.slice none 0 0):=by have:=T.I.var; simp [World.cell?,this]
 have u4:v1.frozen? ⟨w.heap.size+1+1,4,none⟩=false:=by have:=T.I.var; simp [World.frozen?,this]
 replace T:=aA ((T.I.set 1 (.int .i64 k.major)).set 2 (.slice (some ⟨g1,0,none⟩) k.fn.length k.fn.length));go_upto_region 4 with fail;generalize (v1.setCell ⟨w.heap.size+1+1,1,none⟩ (.int .i64 k.major)).setCell ⟨w.heap.size+1+1,2,none⟩ (.slice (some ⟨g1,0,none⟩) k.fn.length k.fn.length)=W1 at *;clear t0 t1 t2 t3 t4 u0 u1 u2 u3 u4;have s3:W1.cell? ⟨w.heap.size,3,none⟩=some (.slice k.qn k.parts.length k.sa):=by have:=T.I.src; simp [World.cell?,this]
 have Mb:=UJ k.qn k.parts k.sa W1 HS.I.sC HS.I.parts (HC.I.parts.below T.I.cd);go_wp2_with fail;clear s3;refine Mb.mono ?_;clear Mb;rintro e v2 ⟨rfl,I,Vu⟩;have hlt:=T.I.lt;have HP:=aA Vu.alike;have HN:Hid (g1 < W1.heap.size∧W1.heap.size < v2.heap.size∧(I.flatMap af.Mc).Nodup∧ ∀ g∈I.flatMap af.Mc,W1.heap.size < g∧g < v2.heap.size):=⟨T.I.keep.here.2.2,(cf Vu.row (by simp [blk])).2,Vu.nodup,fun g hg=>by
  obtain ⟨p,hp,l9⟩:=List.mem_flatMap.1 hg
  have:=(Vu.mine p hp).lt g l9
  omega⟩
 replace T:=aA (T.I.call Vu.cd (G:=fun V=>V.ownsRow w.heap.size 48 8 (.slice (some ⟨W1.heap.size,0,none⟩) k.parts.length k.parts.length) k.parts.length (kp.flat I)∧ ∀ p∈I,ap V w.heap.size p) (fun V hs hz=>⟨cq (aL Vu.row fun g hg=>hs g (by have:=(cf Vu.row hg).1; omega) (cf Vu.row hg).2) (by omega),fun p hp=>((Vu.mine p hp).same fun g hg=>hs g (by have:=((Vu.mine p hp).lt g hg).1; omega) ((Vu.mine p hp).lt g hg).2).lower (by omega)⟩));clear Vu hlt;generalize W1.heap.size=S2 at *;have t0:v2.cell? ⟨w.heap.size+1+1,0,none⟩=some (.int .i64 k.now):=by have:=T.I.var; simp [World.cell?,this]
 have u0:v2.frozen? ⟨w.heap.size+1+1,0,none⟩=false:=by have:=T.I.var; simp [World.frozen?,this]
 have t1:v2.cell? ⟨w.heap.size+1+1,1,none⟩=some (.int .i64 k.major):=by have:=T.I.var; simp [World.cell?,this]
 have u1:v2.frozen? ⟨w.heap.size+1+1,1,none⟩=false:=by have:=T.I.var; simp [World.frozen?,this]
 have t2:v2.cell? ⟨w.heap.size+1+1,2,none⟩=some (.slice (some ⟨g1,0,none⟩) k.fn.length k.fn.length):=by have:=T.I.var; simp [World.cell?,this]
 have u2:v2.frozen? ⟨w.heap.size+1+1,2,none⟩=false:=by have:=T.I.var; simp [World.frozen?,this]
 have t3:v2.cell? ⟨w.heap.size+1+1,3,none⟩=some (.slice none 0 0):=by have:=T.I.var; simp [World.cell?,this]
 have u3:v2.frozen? ⟨w.heap.size+1+1,3,none⟩=false:=by have:=T.I.var; simp [World.frozen?,this]
 have t4:v2.cell? ⟨w.heap.size+1+1,4,none⟩=some (.slice none 0 0):=by have:=T.I.var; simp [World.cell?,this]
 have u4:v2.frozen? ⟨w.heap.size+1+1,4,none⟩=false:=by have:=T.I.var; simp [World.frozen?,this]
 replace T:=aA (T.I.set 3 (.slice (some ⟨S2,0,none⟩) k.parts.length k.parts.length));have HZ:Hid ((v2.setCell ⟨w.heap.size+1+1,3,none⟩ (.slice (some ⟨S2,0,none⟩) k.parts.length k.parts.length)).heap.size=v2.heap.size):=by show _=_; simp
 go_upto_region 5 with fail;generalize v2.setCell ⟨w.heap.size+1+1,3,none⟩ (.slice (some ⟨S2,0,none⟩) k.parts.length k.parts.length)=W2 at *;clear t0 t1 t2 t3 t4 u0 u1 u2 u3 u4;have s4:W2.cell? ⟨w.heap.size,4,none⟩=some (.slice k.qi k.eC.length k.tC):=by have:=T.I.src; simp [World.cell?,this]
 have Mb:=UG k.qi k.eC k.tC W2 HS.I.w8 (HC.I.eC.below T.I.cd);go_wp2_with fail;clear s4;refine Mb.mono ?_;clear Mb;rintro e v3 ⟨rfl,ho,hb3⟩;have hlt:=T.I.lt;replace T:=aA (T.I.call hb3 (G:=fun V=>V.ownsRow w.heap.size 80 4 (.slice (some ⟨W2.heap.size,0,none⟩) k.eC.length k.eC.length) k.eC.length (hM.flat k.eC)) (fun V hs hz=>cq (aL ho fun g hg=>hs g (by have:=(cf ho hg).1; omega) (cf ho hg).2) (by omega)));clear ho hb3 hlt;generalize W2.heap.size=S3 at *;have t0:v3.cell? ⟨w.heap.size+1+1,0,none⟩=some (.int .i64 k.now):=by have:=T.I.var; simp [World.cell?,this]
 have u0:v3.frozen? ⟨w.heap.size+1+1,0,none⟩=false:=by have:=T.I.var; simp [World.frozen?,this]
 have t1:v3.cell? ⟨w.heap.size+1+1,1,none⟩=some (.int .i64 k.major):=by have:=T.I.var; simp [World.cell?,this]
 have u1:v3.frozen? ⟨w.heap.size+1+1,1,none⟩=false:=by have:=T.I.var; simp [World.frozen?,this]
 have t2:v3.cell? ⟨w.heap.size+1+1,2,none⟩=some (.slice (some ⟨g1,0,none⟩) k.fn.length k.fn.length):=by have:=T.I.var; simp [World.cell?,this]
 have u2:v3.frozen? ⟨w.heap.size+1+1,2,none⟩=false:=by have:=T.I.var; simp [World.frozen?,this]
 have t3:v3.cell? ⟨w.heap.size+1+1,3,none⟩=some (.slice (some ⟨S2,0,none⟩) k.parts.length k.parts.length):=by have:=T.I.var; simp [World.cell?,this]
 have u3:v3.frozen? ⟨w.heap.size+1+1,3,none⟩=false:=by have:=T.I.var; simp [World.frozen?,this]
 have t4:v3.cell? ⟨w.heap.size+1+1,4,none⟩=some (.slice none 0 0):=by have:=T.I.var; simp [World.cell?,this]
 have u4:v3.frozen? ⟨w.heap.size+1+1,4,none⟩=false:=by have:=T.I.var; simp [World.frozen?,this]
 replace T:=aA (T.I.set 4 (.slice (some ⟨S3,0,none⟩) k.eC.length k.eC.length));go_upto_region 6 with fail;generalize v3.setCell ⟨w.heap.size+1+1,4,none⟩ (.slice (some ⟨S3,0,none⟩) k.eC.length k.eC.length)=W3 at *;clear t0 t1 t2 t3 t4 u0 u1 u2 u3 u4;have t0:W3.cell? ⟨w.heap.size+1+1,0,none⟩=some (.int .i64 k.now):=by have:=T.I.var; simp [World.cell?,this]
 have u0:W3.frozen? ⟨w.heap.size+1+1,0,none⟩=false:=by have:=T.I.var; simp [World.frozen?,this]
 have t1:W3.cell? ⟨w.heap.size+1+1,1,none⟩=some (.int .i64 k.major):=by have:=T.I.var; simp [World.cell?,this]
 have u1:W3.frozen? ⟨w.heap.size+1+1,1,none⟩=false:=by have:=T.I.var; simp [World.frozen?,this]
 have t2:W3.cell? ⟨w.heap.size+1+1,2,none⟩=some (.slice (some ⟨g1,0,none⟩) k.fn.length k.fn.length):=by have:=T.I.var; simp [World.cell?,this]
 have u2:W3.frozen? ⟨w.heap.size+1+1,2,none⟩=false:=by have:=T.I.var; simp [World.frozen?,this]
 have t3:W3.cell? ⟨w.heap.size+1+1,3,none⟩=some (.slice (some ⟨S2,0,none⟩) k.parts.length k.parts.length):=by have:=T.I.var; simp [World.cell?,this]
 have u3:W3.frozen? ⟨w.heap.size+1+1,3,none⟩=false:=by have:=T.I.var; simp [World.frozen?,this]
 have t4:W3.cell? ⟨w.heap.size+1+1,4,none⟩=some (.slice (some ⟨S3,0,none⟩) k.eC.length k.eC.length):=by have:=T.I.var; simp [World.cell?,this]
 have u4:W3.frozen? ⟨w.heap.size+1+1,4,none⟩=false:=by have:=T.I.var; simp [World.frozen?,this]
 have r0:W3.cell? ⟨w.heap.size+1,0,none⟩=some (.int .i64 0):=by have:=T.I.res; simp [World.cell?,this]
 have p0:W3.frozen? ⟨w.heap.size+1,0,none⟩=false:=by have:=T.I.res; simp [World.frozen?,this]
 have r1:W3.cell? ⟨w.heap.size+1,1,none⟩=some (.int .i64 0):=by have:=T.I.res; simp [World.cell?,this]
 have p1:W3.frozen? ⟨w.heap.size+1,1,none⟩=false:=by have:=T.I.res; simp [World.frozen?,this]
 have r2:W3.cell? ⟨w.heap.size+1,2,none⟩=some (.slice none 0 0):=by have:=T.I.res; simp [World.cell?,this]
 have p2:W3.frozen? ⟨w.heap.size+1,2,none⟩=false:=by have:=T.I.res; simp [World.frozen?,this]
 have r3:W3.cell? ⟨w.heap.size+1,3,none⟩=some (.slice none 0 0):=by have:=T.I.res; simp [World.cell?,this]
 have p3:W3.frozen? ⟨w.heap.size+1,3,none⟩=false:=by have:=T.I.res; simp [World.frozen?,this]
 have r4:W3.cell? ⟨w.heap.size+1,4,none⟩=some (.slice none 0 0):=by have:=T.I.res; simp [World.cell?,this]
 have p4:W3.frozen? ⟨w.heap.size+1,4,none⟩=false:=by have:=T.I.res; simp [World.frozen?,this]
 go_wp2;refine KT (v:= .agg #[.int .i64 k.now,.int .i64 k.major,.slice (some ⟨g1,0,none⟩) k.fn.length k.fn.length,.slice (some ⟨S2,0,none⟩) k.parts.length k.parts.length,.slice (some ⟨S3,0,none⟩) k.eC.length k.eC.length]) (by simp [results,Tryz.results10,go_sem, *]) rfl ?_;have hlen:I.length=k.parts.length:=by have:=congrArg List.length HP.I; simpa using this
 have h7:Below w.heap.size w (bn W3 (w.heap.size+1) 0 [.int .i64 k.now,.int .i64 k.major,.slice (some ⟨g1,0,none⟩) k.fn.length k.fn.length,.slice (some ⟨S2,0,none⟩) k.parts.length k.parts.length,.slice (some ⟨S3,0,none⟩) k.eC.length k.eC.length]):=eU _ (by omega) T.I.cd;have h8:=ni (vs:= [.int .i64 k.now,.int .i64 k.major,.slice (some ⟨g1,0,none⟩) k.fn.length k.fn.length,.slice (some ⟨S2,0,none⟩) k.parts.length k.parts.length,.slice (some ⟨S3,0,none⟩) k.eC.length k.eC.length]) T.I.keep;simp only [bn,Li,Nat.reduceAdd] at h7 h8;obtain ⟨⟨⟨-,h9,h10⟩,h11,h12⟩,h13⟩:=h8;exact ⟨⟨k.now,k.major,k.fn,some ⟨g1,0,none⟩,k.fn.length,I,some ⟨S2,0,none⟩,k.parts.length,k.eC,some ⟨S3,0,none⟩,k.eC.length⟩,g1,by simp only [eA.row,hlen],⟨h9,by simp only [hlen]; exact h11,h13,h12,by
  obtain ⟨n1,n2,n3,n4⟩:=HN.I;have n5:=HZ.I
  show (g1 :: S2 :: S3 :: I.flatMap af.Mc).Nodup
  simp only [Lp,List.mem_cons,not_or];exact ⟨⟨by omega,by omega,fun hm=>by have:=n4 _ hm; omega⟩,⟨by omega,fun hm=>by have:=n4 _ hm; omega⟩,fun hm=>by have:=n4 _ hm; omega,n3⟩⟩,by simp only [eA.pure,HP.I],⟨rfl,h10⟩,h7⟩
end Go.Proofs.YteidkehoekbcaaaGreat

namespace Go.Proofs.YteidkehoekbcaaaGreat
open Go.RowKit Go.Maps
attribute [local go_sem ↓] Kc Kd
def aby (w:World) (Z:Nat→Int) (len:Nat) (e:Ending) (w':World):Prop:= ∃ (a:Option Addr) (cap:Nat),e= .returned (.slice a len cap)∧w'.ownsRow (w.heap.size+1) 100 3 (.slice a len cap) len (Zr Z len)∧Below w.heap.size w w'
theorem aar (cs:Array Value) (major:Int) (len:Nat) (Z:Nat→Int) (w:World) (h:P2 major len Z cs) (hn:len≤20):
  Calls J3 159 #[.func (.func 160) #[.agg cs] #[]] w fun e w'=>aby w Z len e w':=by
 have Mb:=callsIn_wide.1 (appendSeq_in cs major len Z w h hn);clear h
 go_enter Tryz.func159,Tryz.ntmps159
 go_wp2_with fail;refine Mb.mono ?_;clear Mb;rintro e W1 ⟨a,cap,rfl,h1,h2⟩;go_wp2;go_ret;exact ⟨a,cap,rfl,h1,h2⟩
theorem abe {P:Program} {md:Region.Mode} {ops:Array Oper} {Q:Exit→Act→World→Prop} {S:World→Prop} (i:Nat) {oi:Oper} {v:Value} {fuel:Nat} {RV:Array Bool} {a:Act} {w:World} {d:Tmp} (hi:ops[i]? =some oi) (hy:YieldsIf P ops S oi v a) (hS:S w)
  (h:wpAnyH P md ops Q S fuel (RV.setIfInBounds i true) (a.put (some d) v) w) (hd:oi.dst=some d:=by rfl) (h1:Region.noSelect ops=true:=by kernel_rfl) (h2:Region.free md ops RV i=true:=by kernel_rfl) (h3:(Region.ready md ops RV).contains i=true:=by kernel_rfl)
  (hQ: ∀ c a w,Q (.panic c) (a.put (some d) v) w→Q (.panic c) a w:=by exact fun _ _ _ h=>h):wpAnyH P md ops Q S (fuel+1) RV a w:=by
 rw [← hd] at h hQ;exact wpAnyH_take (i:=i) hi h1 h2 h3 hQ hy hS h
def abp (w:World) (major:Int) (Z:Nat→Int) (len:Nat) (e:Ending) (w':World):Prop:= ∃ (a:Option Addr) (cap:Nat),e= .returned (.agg #[.int .i64 major,.slice a len cap])∧w'.ownsRow w.heap.size 100 3 (.slice a len cap) len (Zr Z len)∧Below w.heap.size w w'
theorem ZE (cs:Array Value) (major:Int) (len:Nat) (Z:Nat→Int) (w:World) (h:P2 major len Z cs) (hn:len≤20):
  Calls J3 123 #[.agg cs] w fun e w'=>abp w major Z len e w':=by
 have HC:=aA h;have hsz:cs.size=62:=h.1;have S:Hid (((w.alloc (.cells cs 103)).alloc (.cells #[.int .i64 0,.slice none 0 0] 33)).heap[w.heap.size]? =some (.cells cs 103 (0,0))∧((w.alloc (.cells cs 103)).alloc (.cells #[.int .i64 0,.slice none 0 0] 33)).heap[w.heap.size+1]? =some (.cells #[.int .i64 0,.slice none 0 0] 33 (0,0))∧Below w.heap.size w ((w.alloc (.cells cs 103)).alloc (.cells #[.int .i64 0,.slice none 0 0] 33))):=⟨(PU (by simp)).trans (Kj _ _),heap_alloc2_new _ _ _,((Kp _ _).alloc (Ki _) _).alloc (by simp) _⟩
 have HM:Hid (∀ W:World,W.heap[w.heap.size]? =some (.cells cs 103 (0,0))→W.cell? ⟨w.heap.size,0,none⟩=some (.int .i64 major)):=fun W hW=>by rw [cell_of_row W _ _ cs 103 _ hW]; exact HC.I.major
 clear h
 go_enter Tryz.func123,Tryz.ntmps123
 go_upto_region 1 with fail;generalize (w.alloc (.cells cs 103)).alloc (.cells #[.int .i64 0,.slice none 0 0] 33)=W0 at *;refine Kr (S:=fun W=>W.heap[w.heap.size]? =some (.cells cs 103 (0,0))) (by kernel_rfl) S.I.1 (fun _=> ?_);replace S:Hid (W0.drew.heap[w.heap.size]? =some (.cells cs 103 (0,0))∧W0.drew.heap[w.heap.size+1]? =some (.cells #[.int .i64 0,.slice none 0 0] 33 (0,0))∧Below w.heap.size w W0.drew):=⟨S.I.1,S.I.2.1,S.I.2.2.drew⟩
 generalize World.drew _=V at *;refine tt 0 S.I.1 ?_;refine tt 1 S.I.1 ?_ (hy:=fun w0 hS0=>by have q0:=HM.I w0 hS0; go_simp; try with_reducible rfl);refine abe 2 (v:= .agg cs) rfl (Ib (by rfl) 103 _ rfl w.heap.size (by rfl) 103 _ _ (fun _ h=>h) Tryz.underlying103 rfl (by rw [Dw,hsz])) S.I.1 ?_
 try simp only [pt,sb,s0,s1]
 refine tt 3 S.I.1 ?_;refine L7 4 (fun Q hQ=> ?_);go_wp2_with fail;refine (aar cs major len Z V HC.I hn).mono ?_;rintro e W5 ⟨a,cap,rfl,ho,hb⟩;have HO:=aA (And.intro ho (J2.1 S.I.2.1).1);replace S:Hid (W5.heap[w.heap.size]? =some (.cells cs 103 (0,0))∧W5.heap[w.heap.size+1]? =some (.cells #[.int .i64 0,.slice none 0 0] 33 (0,0))∧Below w.heap.size w W5):=⟨(hb.block _ (J2.1 S.I.1).1).trans S.I.1,(hb.block _ (J2.1 S.I.2.1).1).trans S.I.2.1,S.I.2.2.trans (hb.mono S.I.2.2.size)⟩
 clear ho hb;refine hQ.out _ _ S.I.1 (fun _=> ?_);clear hQ Q
 try simp only [pt,sb,s0,s1]
 refine tt 5 S.I.1 ?_;refine L7 6 (fun Q hQ=> ?_);have d0:W5.cell? ⟨w.heap.size+1,0,none⟩=some (.int .i64 0):=by simp [World.cell?,S.I.2.1]
 have d1:W5.cell? ⟨w.heap.size+1,1,none⟩=some (.slice none 0 0):=by simp [World.cell?,S.I.2.1]
 have f0:W5.frozen? ⟨w.heap.size+1,0,none⟩=false:=by simp [World.frozen?,S.I.2.1]
 have f1:W5.frozen? ⟨w.heap.size+1,1,none⟩=false:=by simp [World.frozen?,S.I.2.1]
 go_wp2_with fail;clear d0 d1 f0 f1;have HW:Hid (((W5.setCell ⟨w.heap.size+1,0,none⟩ (.int .i64 major)).setCell ⟨w.heap.size+1,1,none⟩ (.slice a len cap)).heap[w.heap.size+1]? =some (.cells #[.int .i64 major,.slice a len cap] 33 (0,0))∧((W5.setCell ⟨w.heap.size+1,0,none⟩ (.int .i64 major)).setCell ⟨w.heap.size+1,1,none⟩ (.slice a len cap)).ownsRow w.heap.size 100 3 (.slice a len cap) len (Zr Z len)∧Below w.heap.size w ((W5.setCell ⟨w.heap.size+1,0,none⟩ (.int .i64 major)).setCell ⟨w.heap.size+1,1,none⟩ (.slice a len cap))∧((W5.setCell ⟨w.heap.size+1,0,none⟩ (.int .i64 major)).setCell ⟨w.heap.size+1,1,none⟩ (.slice a len cap)).heap[w.heap.size]? =some (.cells cs 103 (0,0))):=by
  have hs: ∀ g,g≠w.heap.size+1→((W5.setCell ⟨w.heap.size+1,0,none⟩ (.int .i64 major)).setCell ⟨w.heap.size+1,1,none⟩ (.slice a len cap)).heap[g]? =W5.heap[g]? :=fun g hg=>(Go.Deep.blk_setCell_other _ _ _ _ hg).trans (Go.Deep.blk_setCell_other _ _ _ _ hg)
  refine ⟨by have h5:=S.I.2.1; simp [World.setCell,Array.getElem?_modify,h5],cq (aL HO.I.1 fun g hg=>hs g (by have:=(cf HO.I.1 hg).1; have:=HO.I.2; omega)) (by have:=HO.I.2; omega),(S.I.2.2.setCell (by show _≤w.heap.size+1; omega) _).setCell (by show _≤w.heap.size+1; omega) _,(hs _ (by omega)).trans S.I.1⟩
 refine hQ.out _ _ HW.I.2.2.2 (fun _=> ?_);clear hQ Q S HO;refine K3 (by kernel_rfl) ?_ _;generalize (W5.setCell ⟨w.heap.size+1,0,none⟩ (.int .i64 major)).setCell ⟨w.heap.size+1,1,none⟩ (.slice a len cap)=W6 at *;have r0:W6.cell? ⟨w.heap.size+1,0,none⟩=some (.int .i64 major):=by simp [World.cell?,HW.I.1]
 have r1:W6.cell? ⟨w.heap.size+1,1,none⟩=some (.slice a len cap):=by simp [World.cell?,HW.I.1]
 go_wp2;refine KT (v:= .agg #[.int .i64 major,.slice a len cap]) (by simp [results,Tryz.results123,go_sem, *]) rfl ?_;exact ⟨a,cap,rfl,HW.I.2.1,HW.I.2.2.1⟩
theorem Z8: ∀ (l:List pA) (k:Nat),k≤l.length→Zr (sz l) k=jq.flat (l.take k)
 | l,0,_=>by simp [Zr,Kind.flat]
 | l,k+1,h=>by
  obtain ⟨x,hx⟩: ∃ x,l[k]? =some x:=⟨_,List.getElem?_eq_getElem (by omega)⟩
  rw [Zr,Z8 l k (by omega),cj hx];have e0:sz l (k * 3)=x.at_:=by unfold sz; rw [show k * 3 / 3=k by omega,hx]; simp
  have e1:sz l (k * 3+1)=x.len:=by unfold sz; rw [show (k * 3+1) / 3=k by omega,hx]; simp [show (k * 3+1) % 3=1 by omega]
  have e2:sz l (k * 3+2)=x.part:=by unfold sz; rw [show (k * 3+2) / 3=k by omega,hx]; simp [show (k * 3+2) % 3=2 by omega]
  rw [e0,e1,e2];simp [Kind.flat,jq,VE]
end Go.Proofs.YteidkehoekbcaaaGreat
