/- What the proof leans on, part 28. -/
import Derived.Test.YtkbcplnlehdjfaaGreatOwnP27
set_option maxRecDepth 100000
set_option maxHeartbeats 8000000
open Array renaming getElem?_eq_some_iff->J2
open Go renaming heap_alloc_new->Kj,wp_at_succ->Kd,wp_at_zero->Kc
open Go.Proofs.Tryz renaming prog->J3
open Go.RowKit.Below renaming refl->Kp
open List renaming filterMap_cons->LH,getElem?_eq_getElem->Kz,getElem?_eq_some_iff->Lj,length_map->KG,mem_append->Kg,mem_append_left->Lz,mem_append_right->Ly,mem_cons_of_mem->LB,mem_filterMap->Lq,mem_map->Lr,mem_of_getElem?->KA,nodup_append->Kf,nodup_cons->Lp,take_length->LQ
open Nat renaming le_refl->Ki,zero_le->Ky

namespace Go.Proofs.YtkbcplnlehdjfaaGreat
section
open Go.RowKit Go.Maps
attribute [local go_sem ↓] Kc Kd
def N4 (t:ByteArray) (x:aD):ByteArray:=t ++ ⟨#[112,114,111,99,32]⟩ ++ Ij x.id ++ ⟨#[32]⟩ ++ Ij x.RX ++ ⟨#[32]⟩ ++ Ij x.Md ++ ⟨#[32]⟩ ++ Ij x.pc ++ ⟨#[32]⟩ ++ Ij x.left ++ ⟨#[32]⟩ ++ Ij x.Mg ++ ⟨#[32]⟩ ++ Ij x.on ++ ⟨#[32]⟩ ++ Ij x.code ++ ⟨#[32]⟩ ++ Ij x.RU ++ ⟨#[32,59]⟩ ++ x.held ++ ⟨#[59]⟩ ++ x.got ++ ⟨#[59]⟩ ++ NQ x.prog ++ ⟨#[10]⟩
def OT (t:ByteArray) (x:bD):ByteArray:=t ++ ⟨#[115,101,109,32]⟩ ++ Ij x.id ++ ⟨#[32]⟩ ++ Ij x.n ++ ⟨#[32]⟩ ++ Ij x.max ++ ⟨#[10]⟩
def NE (t:ByteArray) (x:aB):ByteArray:=t ++ ⟨#[101,118,101,110,116,32]⟩ ++ Ij x.id ++ ⟨#[32]⟩ ++ Ij (MJ x.up) ++ ⟨#[10]⟩
def NJ (t:ByteArray) (x:az):ByteArray:=t ++ ⟨#[98,111,97,114,100,32]⟩ ++ Ij x.id ++ ⟨#[32]⟩ ++ Ij (MJ x.shown) ++ ⟨#[32]⟩ ++ x.text ++ ⟨#[10]⟩
def Nm (t:ByteArray) (x:ci):ByteArray:=t ++ ⟨#[98,117,102,102,101,114,32]⟩ ++ Ij x.id ++ ⟨#[32]⟩ ++ Ij x.max ++ MI x.Ma ++ ⟨#[10]⟩
def N5 (t:ByteArray) (x:dS):ByteArray:=t ++ ⟨#[112,111,114,116,32]⟩ ++ Ij x.id ++ ⟨#[32]⟩ ++ Ij (MJ x.I) ++ ⟨#[32]⟩ ++ Ij (MJ x.Mf) ++ ⟨#[32]⟩ ++ Ij x.max ++ MI x.Ma ++ ⟨#[10]⟩
def Pu (p:aE):ByteArray:=⟨#[112,97,114,116,32]⟩ ++ Ij p.id ++ ⟨#[32]⟩ ++ Ij p.next ++ ⟨#[10]⟩
def NF (p:aE):ByteArray:=if bK p=true then p.ai.foldl N5 (p.ae.foldl Nm (p.ag.foldl NJ (p.L9.foldl NE (p.aj.foldl OT (p.L8.foldl N4 (Pu p)))))) else ⟨#[]⟩
theorem M4 {α:Type} {F:ByteArray→α→ByteArray} {l:List α} {k:Nat} {x:α} {c:ByteArray} (h:l[k]? =some x):(l.take (k+1)).foldl F c=F ((l.take k).foldl F c) x:=by
 have hk:=(Lj.1 h).1;rw [List.take_succ_eq_append_getElem hk,List.foldl_append,(Lj.1 h).2];rfl
structure MQ (w:World) (B:Nat) (p:af) (W:World):Prop where
 box:av W B p
 MT:af.At W p
 low:Below w.heap.size w W
theorem MQ.below {w W W2:World} {B:Nat} {p:af} (h:MQ w B p W) (hb:Below W.heap.size W W2):MQ w B p W2:=⟨h.box.below hb,h.MT.below hb,h.low.trans (hb.mono h.low.size)⟩
theorem dz {n:Int} (h: -9999999999≤n∧n≤9999999999):(Ij n).size≤2000000000000:=by
 have:=MD h.1 h.2
 omega
theorem Mw {l:List ByteArray} (h:l.length≤1048576) (hs: ∀ x∈l,x.size≤1048576):(MI l).size≤2000000000000:=by
 have h1:=Nf (f:=NS) (l:=l) (m:=1048577) fun y hy=>by have:=hs y hy; rw [Ny]; omega
 have h2:=Nat.mul_le_mul_left 1048577 h;unfold MI;omega
theorem MQ.sem {w W:World} {B gs k:Nat} {p:af} {x:bD} (h:MQ w B p W) (ha:p.bc=some ⟨gs,0,none⟩) (hx:p.aj[k]? =some x):bD.At W gs k x:=by
 obtain ⟨g,h1,h2⟩:=lQ h.MT.2.1 hx;cases ha.symm.trans h1;exact h2
theorem MQ.event {w W:World} {B gs k:Nat} {p:af} {x:aB} (h:MQ w B p W) (ha:p.ay=some ⟨gs,0,none⟩) (hx:p.L9[k]? =some x):aB.At W gs k x:=by
 obtain ⟨g,h1,h2⟩:=j4 h.MT.2.2.1 hx;cases ha.symm.trans h1;exact h2
theorem MQ.board {w W:World} {B gs k:Nat} {p:af} {x:az} (h:MQ w B p W) (ha:p.ax=some ⟨gs,0,none⟩) (hx:p.ag[k]? =some x):az.At W gs k x:=by
 obtain ⟨g,h1,h2⟩:=jr h.MT.2.2.2.1 hx;cases ha.symm.trans h1;exact h2
theorem MQ.buffer {w W:World} {B gs k:Nat} {p:af} {x:au} (h:MQ w B p W) (ha:p.am=some ⟨gs,0,none⟩) (hx:p.ae[k]? =some x):au.At W gs k x:=by
 obtain ⟨g,h1,h2⟩:=iA h.MT.2.2.2.2.1 hx;cases ha.symm.trans h1;exact h2
theorem MQ.proc {w W:World} {B gs k:Nat} {p:af} {x:ao} (h:MQ w B p W) (ha:p.aN=some ⟨gs,0,none⟩) (hx:p.L8[k]? =some x):ao.At W gs k x:=by
 obtain ⟨g,h1,h2⟩:=cn h.MT.1 hx;cases ha.symm.trans h1;exact h2
theorem MS (p:af) (w:World) (hf:p.Fit) (hs: ∀ x∈p.L8,x.dX) (h:af.At w p):
  Calls J3 88 #[.agg p.cells] w fun e w'=>e= .returned (.string (NF p.pure))∧Below w.heap.size w w':=by
 have S:Hid (MQ w w.heap.size p (w.alloc (.cells p.cells 32))):=⟨Kj _ _,h.below ((Kp _ _).alloc (Ki _) _),(Kp _ _).alloc (Ki _) _⟩
 have HF:Hid (p.Fit∧ ∀ x∈p.L8,x.dX):=⟨hf,hs⟩
 clear h hf hs
 go_enter Tryz.func88,Tryz.ntmps88
 go_upto_region 1 with fail;generalize w.alloc (.cells p.cells 32)=A at *;have Mb:=eV p A HF.I.1 HF.I.2 S.I.MT;go_wp2_with (refine eT 1 S.I.box ?_);refine Mb.mono ?_;clear Mb;rintro e A1 ⟨rfl,hb⟩;replace S:=aA (S.I.below hb);clear hb;cases hr:bK p.pure
 ·have HT:Hid (NF p.pure=⟨#[]⟩):=if_neg (by rw [hr]; decide)
  clear hr;go_wp2;go_ret;exact ⟨by rw [HT.I]; rfl,S.I.low⟩
 have HR:=aA ((ch _).1 hr);have HT:=aA (show NF p.pure=_ from if_pos hr);clear hr;have bi: -9999999999≤p.id∧p.id≤9999999999:=by have:=bz.1 HR.I.id; simp only [af.pure] at this; omega
 have Ml: -9999999999≤p.next∧p.next≤9999999999:=by have:=bz.1 HR.I.next; simp only [af.pure] at this; omega
 go_upto_region 3 with fail;refine aT (fun W=>Hid (MQ w w.heap.size p W)) (by kernel_rfl) (S.I.below (Kp _ _).drew) ?_
 iterate 2 (refine PI ?_ (hy:=fun w0 hS0=>by obtain ⟨q0,q1,-,-,-,-,-,-⟩:=hS0.I.box.cells; go_simp; try with_reducible rfl))
 refine Sc (Ij p.id) 171 #[.int .i64 p.id] (fun w0 h0=>(MC _ bi.1 bi.2 w0).mono fun e w1 h=>⟨h.1,h0.I.below h.2⟩) ?_;refine ad (u:=⟨#[112,97,114,116,32]⟩) 1 (by decide) (dz bi) (fun c1 e1 z1=> ?_);refine Sl _ z1 (fun c2 e2 z2=> ?_)
 iterate 2 (refine PI ?_ (hy:=fun w0 hS0=>by obtain ⟨q0,q1,-,-,-,-,-,-⟩:=hS0.I.box.cells; go_simp; try with_reducible rfl))
 refine Sc (Ij p.next) 171 #[.int .i64 p.next] (fun w0 h0=>(MC _ Ml.1 Ml.2 w0).mono fun e w1 h=>⟨h.1,h0.I.below h.2⟩) ?_;refine ad _ z2 (dz Ml) (fun c3 e3 z3=> ?_);refine Sl _ z3 (fun Mn e4 Mj=> ?_);refine PI ?_ (hy:=fun w0 hS0=>by obtain ⟨q0,q1,-,-,-,-,-,-⟩:=hS0.I.box.cells; go_simp; try with_reducible rfl);refine bk (by kernel_rfl) (fun A2 hS2=> ?_) _;have Mh:Hid (Mn=Pu p.pure):=by show _=_; rw [e4.I,e3.I,e2.I,e1.I]; rfl
 clear e4 e3 e2 e1 z1 z2 z3 S bi Ml;have S:=hS2;clear hS2;go_wp2_with fail;have hlProc:p.L8.length≤6:=by have:=HR.I.dl; simp only [af.pure,KG] at this; exact this
 go_loopw [3,4] (fun s i wr=> ∃ (k:Nat) (c:ByteArray),k≤p.L8.length∧i= .int .i64 k∧s= .string c∧c.size≤2000000000000 * (10+25 * k)∧Hid (c=(p.L8.take k).foldl (fun t x=>N4 t x.toaD) Mn∧MQ w w.heap.size p wr)) (fun _ i _=>p.L8.length - (Go.RowKit.intOf i).toNat)
 case atStart=>exact ⟨0,Mn,Ky _,rfl,rfl,by omega,rfl,S.I⟩
 case round=>
  clear S;obtain ⟨k,c,hk,rfl,rfl,z0,HA⟩:=hrel;by_cases hlt:k < p.L8.length
  ·as_aux_lemma=>
    have i0:(0:Int)≤(k:Int):=by omega
    have i1:(k:Int) < (p.L8.length:Int):=by omega
    obtain ⟨x,hx⟩: ∃ x,p.L8[k]? =some x:=⟨_,Kz hlt⟩
    obtain ⟨gs,ha,hat⟩:=cn HA.I.2.MT.1 hx;have HL:=aA (Oy HR.I (x:=x) (Lr.2 ⟨x,KA hx,rfl⟩) (lA HA.I.2.MT.1 hx));have HX:Hid (p.aN=some ⟨gs,0,none⟩∧p.L8[k]? =some x):=⟨ha,hx⟩
    have Nv:=HL.I.1 x.id (by simp);have OM:=HL.I.1 x.RX (by simp);have Oe:=HL.I.1 x.Md (by simp);have bpc:=HL.I.1 x.pc (by simp);have O7:=HL.I.1 x.left (by simp);have OW:=HL.I.1 x.Mg (by simp);have bon:=HL.I.1 x.on (by simp);have O9:=HL.I.1 x.code (by simp);have Og:=HL.I.1 x.RU (by simp);obtain ⟨d0,d1,d2,d3,d4,d5,d6,d7,d8,d9,tH,tS⟩:=hat;obtain ⟨-,-,m2,-,-,-,-,-⟩:=HA.I.2.box.cells;rw [ha] at m2;clear hx ha;have HS:Hid (MQ w w.heap.size p (wr.alloc (.cells x.row 43))∧(wr.alloc (.cells x.row 43)).heap[wr.heap.size]? =some (.cells x.row 43 (0,0))):=⟨HA.I.2.below ((Kp _ _).alloc (Ki _) _),Kj _ _⟩
    go_upto_region 8 with fail;generalize wr.alloc (.cells x.row 43)=V at *;generalize wr.heap.size=X at *;clear d0 d1 d2 d3 d4 d5 d6 d7 d8 d9 tH tS m2;have NR:Hid (∀ W W2:World,Hid (MQ w w.heap.size p W∧W.heap[X]? =some (.cells x.row 43 (0,0)))→Below W.heap.size W W2→Hid (MQ w w.heap.size p W2∧W2.heap[X]? =some (.cells x.row 43 (0,0)))):=fun W W2 h hb=>⟨h.I.1.below hb,(hb.block _ (J2.1 h.I.2).1).trans h.I.2⟩
    refine aT (fun W=>Hid (MQ w w.heap.size p W∧W.heap[X]? =some (.cells x.row 43 (0,0)))) (by kernel_rfl) (NR.I _ _ HS (Kp _ _).drew) ?_;refine PI ?_ (hy:=fun w0 hS0=>by obtain ⟨q0,q1,q2,q3,q4,q5,q6,q7,q8,q9,kY,kV⟩:=bo hS0.I.2; go_simp; try with_reducible rfl);refine Sl _ z0 (fun c1 e1 z1=> ?_)
    iterate 2 (refine PI ?_ (hy:=fun w0 hS0=>by obtain ⟨q0,q1,q2,q3,q4,q5,q6,q7,q8,q9,kY,kV⟩:=bo hS0.I.2; go_simp; try with_reducible rfl))
    refine Sc (Ij x.id) 171 #[.int .i64 x.id] (fun w0 h0=>(MC _ Nv.1 Nv.2 w0).mono fun e w1 h=>⟨h.1,NR.I _ _ h0 h.2⟩) ?_;refine ad _ z1 (dz Nv) (fun c2 e2 z2=> ?_);refine Sl _ z2 (fun c3 e3 z3=> ?_)
    iterate 2 (refine PI ?_ (hy:=fun w0 hS0=>by obtain ⟨q0,q1,q2,q3,q4,q5,q6,q7,q8,q9,kY,kV⟩:=bo hS0.I.2; go_simp; try with_reducible rfl))
    refine Sc (Ij x.RX) 171 #[.int .i64 x.RX] (fun w0 h0=>(MC _ OM.1 OM.2 w0).mono fun e w1 h=>⟨h.1,NR.I _ _ h0 h.2⟩) ?_;refine ad _ z3 (dz OM) (fun c4 e4 z4=> ?_);refine Sl _ z4 (fun c5 e5 z5=> ?_)
    iterate 2 (refine PI ?_ (hy:=fun w0 hS0=>by obtain ⟨q0,q1,q2,q3,q4,q5,q6,q7,q8,q9,kY,kV⟩:=bo hS0.I.2; go_simp; try with_reducible rfl))
    refine Sc (Ij x.Md) 171 #[.int .i64 x.Md] (fun w0 h0=>(MC _ Oe.1 Oe.2 w0).mono fun e w1 h=>⟨h.1,NR.I _ _ h0 h.2⟩) ?_;refine ad _ z5 (dz Oe) (fun c6 e6 z6=> ?_);refine Sl _ z6 (fun c7 e7 z7=> ?_)
    iterate 2 (refine PI ?_ (hy:=fun w0 hS0=>by obtain ⟨q0,q1,q2,q3,q4,q5,q6,q7,q8,q9,kY,kV⟩:=bo hS0.I.2; go_simp; try with_reducible rfl))
    refine Sc (Ij x.pc) 171 #[.int .i64 x.pc] (fun w0 h0=>(MC _ bpc.1 bpc.2 w0).mono fun e w1 h=>⟨h.1,NR.I _ _ h0 h.2⟩) ?_;refine ad _ z7 (dz bpc) (fun c8 e8 KI=> ?_);refine Sl _ KI (fun c9 e9 z9=> ?_)
    iterate 2 (refine PI ?_ (hy:=fun w0 hS0=>by obtain ⟨q0,q1,q2,q3,q4,q5,q6,q7,q8,q9,kY,kV⟩:=bo hS0.I.2; go_simp; try with_reducible rfl))
    refine Sc (Ij x.left) 171 #[.int .i64 x.left] (fun w0 h0=>(MC _ O7.1 O7.2 w0).mono fun e w1 h=>⟨h.1,NR.I _ _ h0 h.2⟩) ?_;refine ad _ z9 (dz O7) (fun qF Pn z10=> ?_);refine Sl _ z10 (fun pe e11 z11=> ?_)
    iterate 2 (refine PI ?_ (hy:=fun w0 hS0=>by obtain ⟨q0,q1,q2,q3,q4,q5,q6,q7,q8,q9,kY,kV⟩:=bo hS0.I.2; go_simp; try with_reducible rfl))
    refine Sc (Ij x.Mg) 171 #[.int .i64 x.Mg] (fun w0 h0=>(MC _ OW.1 OW.2 w0).mono fun e w1 h=>⟨h.1,NR.I _ _ h0 h.2⟩) ?_;refine ad _ z11 (dz OW) (fun c12 PF z12=> ?_);refine Sl _ z12 (fun c13 PG z13=> ?_)
    iterate 2 (refine PI ?_ (hy:=fun w0 hS0=>by obtain ⟨q0,q1,q2,q3,q4,q5,q6,q7,q8,q9,kY,kV⟩:=bo hS0.I.2; go_simp; try with_reducible rfl))
    refine Sc (Ij x.on) 171 #[.int .i64 x.on] (fun w0 h0=>(MC _ bon.1 bon.2 w0).mono fun e w1 h=>⟨h.1,NR.I _ _ h0 h.2⟩) ?_;refine ad _ z13 (dz bon) (fun c14 e14 z14=> ?_);refine Sl _ z14 (fun c15 e15 z15=> ?_)
    iterate 2 (refine PI ?_ (hy:=fun w0 hS0=>by obtain ⟨q0,q1,q2,q3,q4,q5,q6,q7,q8,q9,kY,kV⟩:=bo hS0.I.2; go_simp; try with_reducible rfl))
    refine Sc (Ij x.code) 171 #[.int .i64 x.code] (fun w0 h0=>(MC _ O9.1 O9.2 w0).mono fun e w1 h=>⟨h.1,NR.I _ _ h0 h.2⟩) ?_;refine ad _ z15 (dz O9) (fun c16 e16 z16=> ?_);refine Sl _ z16 (fun c17 PH z17=> ?_)
    iterate 2 (refine PI ?_ (hy:=fun w0 hS0=>by obtain ⟨q0,q1,q2,q3,q4,q5,q6,q7,q8,q9,kY,kV⟩:=bo hS0.I.2; go_simp; try with_reducible rfl))
    refine Sc (Ij x.RU) 171 #[.int .i64 x.RU] (fun w0 h0=>(MC _ Og.1 Og.2 w0).mono fun e w1 h=>⟨h.1,NR.I _ _ h0 h.2⟩) ?_;refine ad _ z17 (dz Og) (fun c18 e18 z18=> ?_);refine Sl _ z18 (fun c19 e19 z19=> ?_)
    iterate 2 (refine PI ?_ (hy:=fun w0 hS0=>by obtain ⟨q0,q1,q2,q3,q4,q5,q6,q7,q8,q9,kY,kV⟩:=bo hS0.I.2; go_simp; try with_reducible rfl))
    refine ad _ z19 (show x.held.size≤2000000000000 by have:=HL.I.2.2.1.held; omega) (fun c20 e20 z20=> ?_);refine Sl _ z20 (fun c21 e21 z21=> ?_)
    iterate 2 (refine PI ?_ (hy:=fun w0 hS0=>by obtain ⟨q0,q1,q2,q3,q4,q5,q6,q7,q8,q9,kY,kV⟩:=bo hS0.I.2; go_simp; try with_reducible rfl))
    refine ad _ z21 (show x.got.size≤2000000000000 by have:=HL.I.2.2.1.got; omega) (fun c22 e22 z22=> ?_);refine Sl _ z22 (fun c23 e23 z23=> ?_)
    iterate 2 (refine PI ?_ (hy:=fun w0 hS0=>by obtain ⟨q0,q1,q2,q3,q4,q5,q6,q7,q8,q9,kY,kV⟩:=bo hS0.I.2; go_simp; try with_reducible rfl))
    refine Sc (NQ x.prog) 172 #[.slice x.aY x.prog.length x.bH] (fun w0 h0=>(NP _ _ _ w0 HL.I.2.1 HL.I.2.2.1.prog HL.I.2.2.1.ops (lA h0.I.1.MT.1 HX.I.2)).mono fun e w1 h=>⟨h.1,NR.I _ _ h0 h.2⟩) ?_;refine ad _ z23 (show (NQ x.prog).size≤2000000000000 by have:=N8 x.prog; omega) (fun c24 e24 z24=> ?_);refine Sl _ z24 (fun c25 e25 z25=> ?_);refine PI ?_ (hy:=fun w0 hS0=>by obtain ⟨q0,q1,q2,q3,q4,q5,q6,q7,q8,q9,kY,kV⟩:=bo hS0.I.2; go_simp; try with_reducible rfl);refine bk (by kernel_rfl) (fun A3 NO=> ?_) _;have HE:Hid (c25=(p.L8.take (k+1)).foldl (fun t x=>N4 t x.toaD) Mn):=by
     show _=_
     rw [M4 HX.I.2,← HA.I.1,e25.I,e24.I,e23.I,e22.I,e21.I,e20.I,e19.I,e18.I,PH.I,e16.I,e15.I,e14.I,PG.I,PF.I,e11.I,Pn.I,e9.I,e8.I,e7.I,e6.I,e5.I,e4.I,e3.I,e2.I,e1.I];rfl
    clear e1 e2 e3 e4 e5 e6 e7 e8 e9 Pn e11 PF PG e14 e15 e16 PH e18 e19 e20 e21 e22 e23 e24 e25 z1 z2 z3 z4 z5 z6 z7 KI z9 z10 z11 z12 z13 z14 z15 z16 z17 z18 z19 z20 z21 z22 z23 z24;go_wp2;go_roundw
    case rel=>exact ⟨k+1,c25,by omega,by go_num,rfl,by omega,HE.I,NO.I.1⟩
    case measure=>simp [Go.RowKit.intOf]; omega
  have i1: ¬ (k:Int) < (p.L8.length:Int):=by omega
  have ek:k=p.L8.length:=by omega
  obtain ⟨NH,NA⟩: ∃ t,Hid (t=c∧c=p.L8.foldl (fun t x=>N4 t x.toaD) Mn):=⟨c,rfl,by have:=HA.I.1; rwa [ek,LQ] at this⟩
  have yProc:NH.size≤2000000000000 * 160:=by rw [NA.I.1]; omega
  have S:Hid (MQ w w.heap.size p wr):=HA.I.2;have Mi:=NA.I.1;replace NA:Hid (NH=p.L8.foldl (fun t x=>N4 t x.toaD) Mn):=NA.I.1.trans NA.I.2;rw [← Mi];clear Mi HA z0 ek;obtain ⟨wproc,Pc⟩: ∃ W:World,W=wr:=⟨_,rfl⟩
  rw [← Pc] at S ⊢;clear Pc;obtain ⟨-,-,m2,-,-,-,-,-⟩:=S.I.box.cells;go_wp2_with fail;clear m2 i1;have hlSem:p.aj.length≤5:=by have:=HR.I.fx; simp only [af.pure] at this; exact this
  go_loopw [3,6] (fun s i wr=> ∃ (k:Nat) (c:ByteArray),k≤p.aj.length∧i= .int .i64 k∧s= .string c∧c.size≤2000000000000 * (160+7 * k)∧Hid (c=(p.aj.take k).foldl (fun t x=>OT t x) NH∧MQ w w.heap.size p wr)) (fun _ i _=>p.aj.length - (Go.RowKit.intOf i).toNat)
  case atStart=>exact ⟨0,NH,Ky _,rfl,rfl,by omega,rfl,S.I⟩
  case round=>
   clear S;obtain ⟨k,c,hk,rfl,rfl,z0,HA⟩:=hrel;by_cases hlt:k < p.aj.length
   ·as_aux_lemma=>
     have i0:(0:Int)≤(k:Int):=by omega
     have i1:(k:Int) < (p.aj.length:Int):=by omega
     obtain ⟨x,hx⟩: ∃ x,p.aj[k]? =some x:=⟨_,Kz hlt⟩
     obtain ⟨gs,ha,hat⟩:=lQ HA.I.2.MT.2.1 hx;have HL:=aA (O2 HR.I wr (x:=x) (KA hx));have HX:Hid (p.bc=some ⟨gs,0,none⟩∧p.aj[k]? =some x):=⟨ha,hx⟩
     have Nv:=HL.I x.id (by simp);have Ml:=HL.I x.n (by simp);have Nz:=HL.I x.max (by simp);have HC:Hid (∀ W,MQ w w.heap.size p W→W.cell? ⟨w.heap.size,3,none⟩=some (.slice (some ⟨gs,0,none⟩) p.aj.length p.bF)∧bD.At W gs k x):=fun W h=>⟨by obtain ⟨-,-,-,m,-,-,-,-⟩:=h.box.cells; rw [← HX.I.1]; exact m,h.sem HX.I.1 HX.I.2⟩
     obtain ⟨-,-,-,m3,-,-,-,-⟩:=HA.I.2.box.cells;clear hx ha hat;go_upto_region 12 with fail;clear m3;refine aT (fun W=>Hid (MQ w w.heap.size p W)) (by kernel_rfl) (HA.I.2.below (Kp _ _).drew) ?_;refine PI ?_ (hy:=fun w0 hS0=>by obtain ⟨m,q0,q1,q2⟩:=HC.I w0 hS0.I; go_simp; try with_reducible rfl);refine Sl _ z0 (fun c1 e1 z1=> ?_)
     iterate 6 (refine PI ?_ (hy:=fun w0 hS0=>by obtain ⟨m,q0,q1,q2⟩:=HC.I w0 hS0.I; go_simp; try with_reducible rfl))
     refine Sc (Ij x.id) 171 #[.int .i64 x.id] (fun w0 h0=>(MC _ Nv.1 Nv.2 w0).mono fun e w1 h=>⟨h.1,h0.I.below h.2⟩) ?_;refine ad _ z1 (dz Nv) (fun c2 e2 z2=> ?_);refine Sl _ z2 (fun c3 e3 z3=> ?_)
     iterate 6 (refine PI ?_ (hy:=fun w0 hS0=>by obtain ⟨m,q0,q1,q2⟩:=HC.I w0 hS0.I; go_simp; try with_reducible rfl))
     refine Sc (Ij x.n) 171 #[.int .i64 x.n] (fun w0 h0=>(MC _ Ml.1 Ml.2 w0).mono fun e w1 h=>⟨h.1,h0.I.below h.2⟩) ?_;refine ad _ z3 (dz Ml) (fun c4 e4 z4=> ?_);refine Sl _ z4 (fun c5 e5 z5=> ?_)
     iterate 6 (refine PI ?_ (hy:=fun w0 hS0=>by obtain ⟨m,q0,q1,q2⟩:=HC.I w0 hS0.I; go_simp; try with_reducible rfl))
     refine Sc (Ij x.max) 171 #[.int .i64 x.max] (fun w0 h0=>(MC _ Nz.1 Nz.2 w0).mono fun e w1 h=>⟨h.1,h0.I.below h.2⟩) ?_;refine ad _ z5 (dz Nz) (fun c6 e6 z6=> ?_);refine Sl _ z6 (fun c7 e7 z7=> ?_);refine PI ?_ (hy:=fun w0 hS0=>by obtain ⟨m,q0,q1,q2⟩:=HC.I w0 hS0.I; go_simp; try with_reducible rfl);refine bk (by kernel_rfl) (fun A3 NO=> ?_) _;have HE:Hid (c7=(p.aj.take (k+1)).foldl (fun t x=>OT t x) NH):=by
      show _=_
      rw [M4 HX.I.2,← HA.I.1,e7.I,e6.I,e5.I,e4.I,e3.I,e2.I,e1.I];rfl
     clear e1 e2 e3 e4 e5 e6 e7 z1 z2 z3 z4 z5 z6;go_wp2;go_roundw
     case rel=>exact ⟨k+1,c7,by omega,by go_num,rfl,by omega,HE.I,NO.I⟩
     case measure=>simp [Go.RowKit.intOf]; omega
   have i1: ¬ (k:Int) < (p.aj.length:Int):=by omega
   have ek:k=p.aj.length:=by omega
   obtain ⟨N7,Oh⟩: ∃ t,Hid (t=c∧c=p.aj.foldl (fun t x=>OT t x) NH):=⟨c,rfl,by have:=HA.I.1; rwa [ek,LQ] at this⟩
   have ySem:N7.size≤2000000000000 * 195:=by rw [Oh.I.1]; omega
   have S:Hid (MQ w w.heap.size p wr):=HA.I.2;have Mi:=Oh.I.1;replace Oh:Hid (N7=p.aj.foldl (fun t x=>OT t x) NH):=Oh.I.1.trans Oh.I.2;rw [← Mi];clear Mi HA z0 ek;obtain ⟨wsem,Pr⟩: ∃ W:World,W=wr:=⟨_,rfl⟩
   rw [← Pr] at S ⊢;clear Pr;obtain ⟨-,-,-,m3,-,-,-,-⟩:=S.I.box.cells;go_wp2_with fail;clear m3 i1;have hlEvent:p.L9.length≤5:=by have:=HR.I.cD; simp only [af.pure] at this; exact this
   go_loopw [3,7] (fun s i wr=> ∃ (k:Nat) (c:ByteArray),k≤p.L9.length∧i= .int .i64 k∧s= .string c∧c.size≤2000000000000 * (195+5 * k)∧Hid (c=(p.L9.take k).foldl (fun t x=>NE t x) N7∧MQ w w.heap.size p wr)) (fun _ i _=>p.L9.length - (Go.RowKit.intOf i).toNat)
   case atStart=>exact ⟨0,N7,Ky _,rfl,rfl,by omega,rfl,S.I⟩
   case round=>
    clear S;obtain ⟨k,c,hk,rfl,rfl,z0,HA⟩:=hrel;by_cases hlt:k < p.L9.length
    ·as_aux_lemma=>
      have i0:(0:Int)≤(k:Int):=by omega
      have i1:(k:Int) < (p.L9.length:Int):=by omega
      obtain ⟨x,hx⟩: ∃ x,p.L9[k]? =some x:=⟨_,Kz hlt⟩
      obtain ⟨gs,ha,hat⟩:=j4 HA.I.2.MT.2.2.1 hx;have HL:=aA (Oi HR.I wr (x:=x) (KA hx));have HX:Hid (p.ay=some ⟨gs,0,none⟩∧p.L9[k]? =some x):=⟨ha,hx⟩
      have Nv:=HL.I x.id (by simp);have HC:Hid (∀ W,MQ w w.heap.size p W→W.cell? ⟨w.heap.size,4,none⟩=some (.slice (some ⟨gs,0,none⟩) p.L9.length p.aO)∧aB.At W gs k x):=fun W h=>⟨by obtain ⟨-,-,-,-,m,-,-,-⟩:=h.box.cells; rw [← HX.I.1]; exact m,h.event HX.I.1 HX.I.2⟩
      obtain ⟨-,-,-,-,m4,-,-,-⟩:=HA.I.2.box.cells;clear hx ha hat;go_upto_region 16 with fail;clear m4;refine aT (fun W=>Hid (MQ w w.heap.size p W)) (by kernel_rfl) (HA.I.2.below (Kp _ _).drew) ?_;refine PI ?_ (hy:=fun w0 hS0=>by obtain ⟨m,q0,q1⟩:=HC.I w0 hS0.I; go_simp; try with_reducible rfl);refine Sl _ z0 (fun c1 e1 z1=> ?_)
      iterate 6 (refine PI ?_ (hy:=fun w0 hS0=>by obtain ⟨m,q0,q1⟩:=HC.I w0 hS0.I; go_simp; try with_reducible rfl))
      refine Sc (Ij x.id) 171 #[.int .i64 x.id] (fun w0 h0=>(MC _ Nv.1 Nv.2 w0).mono fun e w1 h=>⟨h.1,h0.I.below h.2⟩) ?_;refine ad _ z1 (dz Nv) (fun c2 e2 z2=> ?_);refine Sl _ z2 (fun c3 e3 z3=> ?_)
      iterate 6 (refine PI ?_ (hy:=fun w0 hS0=>by obtain ⟨m,q0,q1⟩:=HC.I w0 hS0.I; go_simp; try with_reducible rfl))
      refine Sc (Ij (MJ x.up)) 173 #[.bool x.up] (fun w0 h0=>(MX _ w0).mono fun e w1 h=>⟨h.1,by rw [h.2]; exact h0⟩) ?_;refine ad _ z3 (dz (MM _)) (fun c4 e4 z4=> ?_);refine Sl _ z4 (fun c5 e5 z5=> ?_);refine PI ?_ (hy:=fun w0 hS0=>by obtain ⟨m,q0,q1⟩:=HC.I w0 hS0.I; go_simp; try with_reducible rfl);refine bk (by kernel_rfl) (fun A3 NO=> ?_) _;have HE:Hid (c5=(p.L9.take (k+1)).foldl (fun t x=>NE t x) N7):=by
       show _=_
       rw [M4 HX.I.2,← HA.I.1,e5.I,e4.I,e3.I,e2.I,e1.I];rfl
      clear e1 e2 e3 e4 e5 z1 z2 z3 z4;go_wp2;go_roundw
      case rel=>exact ⟨k+1,c5,by omega,by go_num,rfl,by omega,HE.I,NO.I⟩
      case measure=>simp [Go.RowKit.intOf]; omega
    have i1: ¬ (k:Int) < (p.L9.length:Int):=by omega
    have ek:k=p.L9.length:=by omega
    obtain ⟨Ni,Ng⟩: ∃ t,Hid (t=c∧c=p.L9.foldl (fun t x=>NE t x) N7):=⟨c,rfl,by have:=HA.I.1; rwa [ek,LQ] at this⟩
    have yEvent:Ni.size≤2000000000000 * 220:=by rw [Ng.I.1]; omega
    have S:Hid (MQ w w.heap.size p wr):=HA.I.2;have Mi:=Ng.I.1;replace Ng:Hid (Ni=p.L9.foldl (fun t x=>NE t x) N7):=Ng.I.1.trans Ng.I.2;rw [← Mi];clear Mi HA z0 ek;obtain ⟨wevent,Ol⟩: ∃ W:World,W=wr:=⟨_,rfl⟩
    rw [← Ol] at S ⊢;clear Ol;obtain ⟨-,-,-,-,m4,-,-,-⟩:=S.I.box.cells;go_wp2_with fail;clear m4 i1;have hlBoard:p.ag.length≤5:=by have:=HR.I.cC; simp only [af.pure] at this; exact this
    go_loopw [3,8] (fun s i wr=> ∃ (k:Nat) (c:ByteArray),k≤p.ag.length∧i= .int .i64 k∧s= .string c∧c.size≤2000000000000 * (220+7 * k)∧Hid (c=(p.ag.take k).foldl (fun t x=>NJ t x) Ni∧MQ w w.heap.size p wr)) (fun _ i _=>p.ag.length - (Go.RowKit.intOf i).toNat)
    case atStart=>exact ⟨0,Ni,Ky _,rfl,rfl,by omega,rfl,S.I⟩
    case round=>
     clear S;obtain ⟨k,c,hk,rfl,rfl,z0,HA⟩:=hrel;by_cases hlt:k < p.ag.length
     ·as_aux_lemma=>
       have i0:(0:Int)≤(k:Int):=by omega
       have i1:(k:Int) < (p.ag.length:Int):=by omega
       obtain ⟨x,hx⟩: ∃ x,p.ag[k]? =some x:=⟨_,Kz hlt⟩
       obtain ⟨gs,ha,hat⟩:=jr HA.I.2.MT.2.2.2.1 hx;have HL:=aA (N9 HR.I wr (x:=x) (KA hx));have HX:Hid (p.ax=some ⟨gs,0,none⟩∧p.ag[k]? =some x):=⟨ha,hx⟩
       have Nv:=HL.I.1 x.id (by simp);have HC:Hid (∀ W,MQ w w.heap.size p W→W.cell? ⟨w.heap.size,5,none⟩=some (.slice (some ⟨gs,0,none⟩) p.ag.length p.aP)∧az.At W gs k x):=fun W h=>⟨by obtain ⟨-,-,-,-,-,m,-,-⟩:=h.box.cells; rw [← HX.I.1]; exact m,h.board HX.I.1 HX.I.2⟩
       obtain ⟨-,-,-,-,-,m5,-,-⟩:=HA.I.2.box.cells;clear hx ha hat;go_upto_region 20 with fail;clear m5;refine aT (fun W=>Hid (MQ w w.heap.size p W)) (by kernel_rfl) (HA.I.2.below (Kp _ _).drew) ?_;refine PI ?_ (hy:=fun w0 hS0=>by obtain ⟨m,q0,q1,q2⟩:=HC.I w0 hS0.I; go_simp; try with_reducible rfl);refine Sl _ z0 (fun c1 e1 z1=> ?_)
       iterate 6 (refine PI ?_ (hy:=fun w0 hS0=>by obtain ⟨m,q0,q1,q2⟩:=HC.I w0 hS0.I; go_simp; try with_reducible rfl))
       refine Sc (Ij x.id) 171 #[.int .i64 x.id] (fun w0 h0=>(MC _ Nv.1 Nv.2 w0).mono fun e w1 h=>⟨h.1,h0.I.below h.2⟩) ?_;refine ad _ z1 (dz Nv) (fun c2 e2 z2=> ?_);refine Sl _ z2 (fun c3 e3 z3=> ?_)
       iterate 6 (refine PI ?_ (hy:=fun w0 hS0=>by obtain ⟨m,q0,q1,q2⟩:=HC.I w0 hS0.I; go_simp; try with_reducible rfl))
       refine Sc (Ij (MJ x.shown)) 173 #[.bool x.shown] (fun w0 h0=>(MX _ w0).mono fun e w1 h=>⟨h.1,by rw [h.2]; exact h0⟩) ?_;refine ad _ z3 (dz (MM _)) (fun c4 e4 z4=> ?_);refine Sl _ z4 (fun c5 e5 z5=> ?_)
       iterate 6 (refine PI ?_ (hy:=fun w0 hS0=>by obtain ⟨m,q0,q1,q2⟩:=HC.I w0 hS0.I; go_simp; try with_reducible rfl))
       refine ad _ z5 (show x.text.size≤2000000000000 by have:=HL.I.2; omega) (fun c6 e6 z6=> ?_);refine Sl _ z6 (fun c7 e7 z7=> ?_);refine PI ?_ (hy:=fun w0 hS0=>by obtain ⟨m,q0,q1,q2⟩:=HC.I w0 hS0.I; go_simp; try with_reducible rfl);refine bk (by kernel_rfl) (fun A3 NO=> ?_) _;have HE:Hid (c7=(p.ag.take (k+1)).foldl (fun t x=>NJ t x) Ni):=by
        show _=_
        rw [M4 HX.I.2,← HA.I.1,e7.I,e6.I,e5.I,e4.I,e3.I,e2.I,e1.I];rfl
       clear e1 e2 e3 e4 e5 e6 e7 z1 z2 z3 z4 z5 z6;go_wp2;go_roundw
       case rel=>exact ⟨k+1,c7,by omega,by go_num,rfl,by omega,HE.I,NO.I⟩
       case measure=>simp [Go.RowKit.intOf]; omega
     have i1: ¬ (k:Int) < (p.ag.length:Int):=by omega
     have ek:k=p.ag.length:=by omega
     obtain ⟨Nd,Nc⟩: ∃ t,Hid (t=c∧c=p.ag.foldl (fun t x=>NJ t x) Ni):=⟨c,rfl,by have:=HA.I.1; rwa [ek,LQ] at this⟩
     have yBoard:Nd.size≤2000000000000 * 255:=by rw [Nc.I.1]; omega
     have S:Hid (MQ w w.heap.size p wr):=HA.I.2;have Mi:=Nc.I.1;replace Nc:Hid (Nd=p.ag.foldl (fun t x=>NJ t x) Ni):=Nc.I.1.trans Nc.I.2;rw [← Mi];clear Mi HA z0 ek;obtain ⟨wboard,Om⟩: ∃ W:World,W=wr:=⟨_,rfl⟩
     rw [← Om] at S ⊢;clear Om;obtain ⟨-,-,-,-,-,m5,-,-⟩:=S.I.box.cells;go_wp2_with fail;clear m5 i1;have hlBuffer:p.ae.length≤5:=by have:=HR.I.cb; simp only [af.pure,KG] at this; exact this
     go_loopw [3,9] (fun s i wr=> ∃ (k:Nat) (c:ByteArray),k≤p.ae.length∧i= .int .i64 k∧s= .string c∧c.size≤2000000000000 * (255+6 * k)∧Hid (c=(p.ae.take k).foldl (fun t x=>Nm t x.toci) Nd∧MQ w w.heap.size p wr)) (fun _ i _=>p.ae.length - (Go.RowKit.intOf i).toNat)
     case atStart=>exact ⟨0,Nd,Ky _,rfl,rfl,by omega,rfl,S.I⟩
     case round=>
      clear S;obtain ⟨k,c,hk,rfl,rfl,z0,HA⟩:=hrel;by_cases hlt:k < p.ae.length
      ·as_aux_lemma=>
        have i0:(0:Int)≤(k:Int):=by omega
        have i1:(k:Int) < (p.ae.length:Int):=by omega
        obtain ⟨x,hx⟩: ∃ x,p.ae[k]? =some x:=⟨_,Kz hlt⟩
        obtain ⟨gs,ha,hat⟩:=iA HA.I.2.MT.2.2.2.2.1 hx;have HL:=aA (N3 HR.I (x:=x) (Lr.2 ⟨x,KA hx,rfl⟩) (lj HA.I.2.MT.2.2.2.2.1 hx));have HX:Hid (p.am=some ⟨gs,0,none⟩∧p.ae[k]? =some x):=⟨ha,hx⟩
        have Nv:=HL.I.1 x.id (by simp);have Nz:=HL.I.1 x.max (by simp);have HC:Hid (∀ W,MQ w w.heap.size p W→W.cell? ⟨w.heap.size,6,none⟩=some (.slice (some ⟨gs,0,none⟩) p.ae.length p.aG)∧au.At W gs k x):=fun W h=>⟨by obtain ⟨-,-,-,-,-,-,m,-⟩:=h.box.cells; rw [← HX.I.1]; exact m,h.buffer HX.I.1 HX.I.2⟩
        obtain ⟨-,-,-,-,-,-,m6,-⟩:=HA.I.2.box.cells;clear hx ha hat;go_upto_region 24 with fail;clear m6;refine aT (fun W=>Hid (MQ w w.heap.size p W)) (by kernel_rfl) (HA.I.2.below (Kp _ _).drew) ?_;refine PI ?_ (hy:=fun w0 hS0=>by obtain ⟨m,q0,q1,q2⟩:=HC.I w0 hS0.I; go_simp; try with_reducible rfl);refine Sl _ z0 (fun c1 e1 z1=> ?_)
        iterate 6 (refine PI ?_ (hy:=fun w0 hS0=>by obtain ⟨m,q0,q1,q2⟩:=HC.I w0 hS0.I; go_simp; try with_reducible rfl))
        refine Sc (Ij x.id) 171 #[.int .i64 x.id] (fun w0 h0=>(MC _ Nv.1 Nv.2 w0).mono fun e w1 h=>⟨h.1,h0.I.below h.2⟩) ?_;refine ad _ z1 (dz Nv) (fun c2 e2 z2=> ?_);refine Sl _ z2 (fun c3 e3 z3=> ?_)
        iterate 6 (refine PI ?_ (hy:=fun w0 hS0=>by obtain ⟨m,q0,q1,q2⟩:=HC.I w0 hS0.I; go_simp; try with_reducible rfl))
        refine Sc (Ij x.max) 171 #[.int .i64 x.max] (fun w0 h0=>(MC _ Nz.1 Nz.2 w0).mono fun e w1 h=>⟨h.1,h0.I.below h.2⟩) ?_;refine ad _ z3 (dz Nz) (fun c4 e4 z4=> ?_)
        iterate 6 (refine PI ?_ (hy:=fun w0 hS0=>by obtain ⟨m,q0,q1,q2⟩:=HC.I w0 hS0.I; go_simp; try with_reducible rfl))
        refine Sc (MI x.Ma) 174 #[.slice x.ak x.Ma.length x.aq] (fun w0 h0=>(Nx _ _ _ w0 HL.I.2.1 HL.I.2.2.1 (lj h0.I.MT.2.2.2.2.1 HX.I.2)).mono fun e w1 h=>⟨h.1,by rw [h.2]; exact h0⟩) ?_;refine ad _ z4 (Mw HL.I.2.1 HL.I.2.2.1) (fun c5 e5 z5=> ?_);refine Sl _ z5 (fun c6 e6 z6=> ?_);refine PI ?_ (hy:=fun w0 hS0=>by obtain ⟨m,q0,q1,q2⟩:=HC.I w0 hS0.I; go_simp; try with_reducible rfl);refine bk (by kernel_rfl) (fun A3 NO=> ?_) _;have HE:Hid (c6=(p.ae.take (k+1)).foldl (fun t x=>Nm t x.toci) Nd):=by
         show _=_
         rw [M4 HX.I.2,← HA.I.1,e6.I,e5.I,e4.I,e3.I,e2.I,e1.I];rfl
        clear e1 e2 e3 e4 e5 e6 z1 z2 z3 z4 z5;go_wp2;go_roundw
        case rel=>exact ⟨k+1,c6,by omega,by go_num,rfl,by omega,HE.I,NO.I⟩
        case measure=>simp [Go.RowKit.intOf]; omega
      have i1: ¬ (k:Int) < (p.ae.length:Int):=by omega
      have ek:k=p.ae.length:=by omega
      obtain ⟨MW,MV⟩: ∃ t,Hid (t=c∧c=p.ae.foldl (fun t x=>Nm t x.toci) Nd):=⟨c,rfl,by have:=HA.I.1; rwa [ek,LQ] at this⟩
      have yBuffer:MW.size≤2000000000000 * 285:=by rw [MV.I.1]; omega
      have S:Hid (MQ w w.heap.size p wr):=HA.I.2;have Mi:=MV.I.1;replace MV:Hid (MW=p.ae.foldl (fun t x=>Nm t x.toci) Nd):=MV.I.1.trans MV.I.2;rw [← Mi];clear Mi HA z0 ek;obtain ⟨wbuffer,NZ⟩: ∃ W:World,W=wr:=⟨_,rfl⟩
      rw [← NZ] at S ⊢;clear NZ;obtain ⟨-,-,-,-,-,-,m6,-⟩:=S.I.box.cells;go_wp2_with fail;clear m6 i1;have hlPort:p.ai.length≤5:=by have:=HR.I.dH; simp only [af.pure,KG] at this; exact this
      go_loopw [3,10] (fun s i wr=> ∃ (k:Nat) (c:ByteArray),k≤p.ai.length∧i= .int .i64 k∧s= .string c∧c.size≤2000000000000 * (285+10 * k)∧Hid (c=(p.ai.take k).foldl (fun t x=>N5 t x.todS) MW∧MQ w w.heap.size p wr)) (fun _ i _=>p.ai.length - (Go.RowKit.intOf i).toNat)
      case atStart=>exact ⟨0,MW,Ky _,rfl,rfl,by omega,rfl,S.I⟩
      case round=>
       clear S;obtain ⟨k,c,hk,rfl,rfl,z0,HA⟩:=hrel;by_cases hlt:k < p.ai.length
       ·as_aux_lemma=>
         have i0:(0:Int)≤(k:Int):=by omega
         have i1:(k:Int) < (p.ai.length:Int):=by omega
         obtain ⟨x,hx⟩: ∃ x,p.ai[k]? =some x:=⟨_,Kz hlt⟩
         obtain ⟨gs,ha,hat⟩:=lm HA.I.2.MT.2.2.2.2.2 hx;have HL:=aA (OA HR.I (x:=x) (Lr.2 ⟨x,KA hx,rfl⟩) (nJ HA.I.2.MT.2.2.2.2.2 hx));have HX:Hid (p.aK=some ⟨gs,0,none⟩∧p.ai[k]? =some x):=⟨ha,hx⟩
         have Nv:=HL.I.1 x.id (by simp);have Nz:=HL.I.1 x.max (by simp);obtain ⟨d0,d1,d2,d3,d4⟩:=hat;obtain ⟨-,-,-,-,-,-,-,m7⟩:=HA.I.2.box.cells;rw [ha] at m7;clear hx ha;have HS:Hid (MQ w w.heap.size p (wr.alloc (.cells #[.int .i64 x.id,.bool x.I,.bool x.Mf,.int .i64 x.max,.slice x.ak x.Ma.length x.aq] 61))∧(wr.alloc (.cells #[.int .i64 x.id,.bool x.I,.bool x.Mf,.int .i64 x.max,.slice x.ak x.Ma.length x.aq] 61)).heap[wr.heap.size]? =some (.cells #[.int .i64 x.id,.bool x.I,.bool x.Mf,.int .i64 x.max,.slice x.ak x.Ma.length x.aq] 61 (0,0))):=⟨HA.I.2.below ((Kp _ _).alloc (Ki _) _),Kj _ _⟩
         go_upto_region 29 with fail;generalize wr.alloc (.cells #[.int .i64 x.id,.bool x.I,.bool x.Mf,.int .i64 x.max,.slice x.ak x.Ma.length x.aq] 61)=V at *;generalize wr.heap.size=X at *;clear d0 d1 d2 d3 d4 m7;have NR:Hid (∀ W W2:World,Hid (MQ w w.heap.size p W∧W.heap[X]? =some (.cells #[.int .i64 x.id,.bool x.I,.bool x.Mf,.int .i64 x.max,.slice x.ak x.Ma.length x.aq] 61 (0,0)))→Below W.heap.size W W2→Hid (MQ w w.heap.size p W2∧W2.heap[X]? =some (.cells #[.int .i64 x.id,.bool x.I,.bool x.Mf,.int .i64 x.max,.slice x.ak x.Ma.length x.aq] 61 (0,0)))):=fun W W2 h hb=>⟨h.I.1.below hb,(hb.block _ (J2.1 h.I.2).1).trans h.I.2⟩
         refine aT (fun W=>Hid (MQ w w.heap.size p W∧W.heap[X]? =some (.cells #[.int .i64 x.id,.bool x.I,.bool x.Mf,.int .i64 x.max,.slice x.ak x.Ma.length x.aq] 61 (0,0)))) (by kernel_rfl) (NR.I _ _ HS (Kp _ _).drew) ?_;refine PI ?_ (hy:=fun w0 hS0=>by obtain ⟨q0,q1,q2,q3,q4⟩:=gE hS0.I.2; go_simp; try with_reducible rfl);refine Sl _ z0 (fun c1 e1 z1=> ?_)
         iterate 2 (refine PI ?_ (hy:=fun w0 hS0=>by obtain ⟨q0,q1,q2,q3,q4⟩:=gE hS0.I.2; go_simp; try with_reducible rfl))
         refine Sc (Ij x.id) 171 #[.int .i64 x.id] (fun w0 h0=>(MC _ Nv.1 Nv.2 w0).mono fun e w1 h=>⟨h.1,NR.I _ _ h0 h.2⟩) ?_;refine ad _ z1 (dz Nv) (fun c2 e2 z2=> ?_);refine Sl _ z2 (fun c3 e3 z3=> ?_)
         iterate 2 (refine PI ?_ (hy:=fun w0 hS0=>by obtain ⟨q0,q1,q2,q3,q4⟩:=gE hS0.I.2; go_simp; try with_reducible rfl))
         refine Sc (Ij (MJ x.I)) 173 #[.bool x.I] (fun w0 h0=>(MX _ w0).mono fun e w1 h=>⟨h.1,by rw [h.2]; exact h0⟩) ?_;refine ad _ z3 (dz (MM _)) (fun c4 e4 z4=> ?_);refine Sl _ z4 (fun c5 e5 z5=> ?_)
         iterate 2 (refine PI ?_ (hy:=fun w0 hS0=>by obtain ⟨q0,q1,q2,q3,q4⟩:=gE hS0.I.2; go_simp; try with_reducible rfl))
         refine Sc (Ij (MJ x.Mf)) 173 #[.bool x.Mf] (fun w0 h0=>(MX _ w0).mono fun e w1 h=>⟨h.1,by rw [h.2]; exact h0⟩) ?_;refine ad _ z5 (dz (MM _)) (fun c6 e6 z6=> ?_);refine Sl _ z6 (fun c7 e7 z7=> ?_)
         iterate 2 (refine PI ?_ (hy:=fun w0 hS0=>by obtain ⟨q0,q1,q2,q3,q4⟩:=gE hS0.I.2; go_simp; try with_reducible rfl))
         refine Sc (Ij x.max) 171 #[.int .i64 x.max] (fun w0 h0=>(MC _ Nz.1 Nz.2 w0).mono fun e w1 h=>⟨h.1,NR.I _ _ h0 h.2⟩) ?_;refine ad _ z7 (dz Nz) (fun c8 e8 KI=> ?_)
         iterate 2 (refine PI ?_ (hy:=fun w0 hS0=>by obtain ⟨q0,q1,q2,q3,q4⟩:=gE hS0.I.2; go_simp; try with_reducible rfl))
         refine Sc (MI x.Ma) 174 #[.slice x.ak x.Ma.length x.aq] (fun w0 h0=>(Nx _ _ _ w0 HL.I.2.1 HL.I.2.2.1 (nJ h0.I.1.MT.2.2.2.2.2 HX.I.2)).mono fun e w1 h=>⟨h.1,by rw [h.2]; exact h0⟩) ?_;refine ad _ KI (Mw HL.I.2.1 HL.I.2.2.1) (fun c9 e9 z9=> ?_);refine Sl _ z9 (fun qF Pn z10=> ?_);refine PI ?_ (hy:=fun w0 hS0=>by obtain ⟨q0,q1,q2,q3,q4⟩:=gE hS0.I.2; go_simp; try with_reducible rfl);refine bk (by kernel_rfl) (fun A3 NO=> ?_) _;have HE:Hid (qF=(p.ai.take (k+1)).foldl (fun t x=>N5 t x.todS) MW):=by
          show _=_
          rw [M4 HX.I.2,← HA.I.1,Pn.I,e9.I,e8.I,e7.I,e6.I,e5.I,e4.I,e3.I,e2.I,e1.I];rfl
         clear e1 e2 e3 e4 e5 e6 e7 e8 e9 Pn z1 z2 z3 z4 z5 z6 z7 KI z9;go_wp2;go_roundw
         case rel=>exact ⟨k+1,qF,by omega,by go_num,rfl,by omega,HE.I,NO.I.1⟩
         case measure=>simp [Go.RowKit.intOf]; omega
       have i1: ¬ (k:Int) < (p.ai.length:Int):=by omega
       have ek:k=p.ai.length:=by omega
       obtain ⟨O3,NM⟩: ∃ t,Hid (t=c∧c=p.ai.foldl (fun t x=>N5 t x.todS) MW):=⟨c,rfl,by have:=HA.I.1; rwa [ek,LQ] at this⟩
       have yPort:O3.size≤2000000000000 * 335:=by rw [NM.I.1]; omega
       have S:Hid (MQ w w.heap.size p wr):=HA.I.2;have Mi:=NM.I.1;replace NM:Hid (O3=p.ai.foldl (fun t x=>N5 t x.todS) MW):=NM.I.1.trans NM.I.2;rw [← Mi];clear Mi HA z0 ek;obtain ⟨wport,O8⟩: ∃ W:World,W=wr:=⟨_,rfl⟩
       rw [← O8] at S ⊢;clear O8;obtain ⟨-,-,-,-,-,-,-,m7⟩:=S.I.box.cells;have HQ:Hid (O3=NF p.pure):=by
        show _=_
        rw [HT.I,NM.I,MV.I,Nc.I,Ng.I,Oh.I,NA.I,Mh.I];simp only [af.pure,List.foldl_map]
       clear HT NM MV Nc Ng Oh NA Mh;go_wp2;go_ret;exact ⟨by rw [← HQ.I]; rfl,S.I.low⟩
end
section
open Go.RowKit Go.Maps
def aZ.ju (S:aZ) (g:Nat) (f:ao→ao) (nx:Int):aZ:= { S with q:= { S.q with next:=nx },lp:=sU g f S.lp }
theorem GW {g:Nat} {f:ao→ao} (hf: ∀ x,aR.bt (f x)=aR.bt x) (l:List (ao × Nat)):kids aR (sU g f l)=kids aR l:=by
 induction l with
 | nil=>rfl
 | cons p r ih=>
  have e:(sU g f (p :: r))=(if p.2=g then (f p.1,p.2) else p) :: sU g f r:=rfl;simp only [kids,LH] at ih ⊢;rw [e];simp only [LH];by_cases h:p.2=g
  ·simp only [h,if_true,hf]
   rw [ih]
  ·simp only [h,if_false]
   rw [ih]
theorem cJ.ju {w w':World} {base o g:Nat} {S:aZ} {f:ao→ao} {nx:Int} (h:cJ w base o S) (hf: ∀ x,(f x).id=x.id∧(f x).prog=x.prog∧(f x).aY=x.aY∧(f x).bH=x.bH)
  (hc: ∀ p∈S.lp,p.2=g→w'.heap[g]? =some (.cells (aX (f p.1)) 43 (0,0))) (hg:g∈S.lp.map (·.2)) (ho:fa w' o { S.q with next:=nx }) (hs: ∀ b,b≠g→b≠o→w'.heap[b]? =w.heap[b]?):cJ w' base o (S.ju g f nx):=by
 have iH: ∀ x,aR.bt (f x)=aR.bt x:=fun x=>by show (f x).aY.map (·.block)=x.aY.map (·.block); rw [(hf x).2.2.1]
 have hn:=h.nodup;have hno:=(Lp.1 hn).1;have yD:=(Kf.1 (Lp.1 hn).2)
 have jQ:=yD.1;unfold aZ.boxes at jQ;have hin: ∀ b,b∈S.boxes∨b∈S.kids→b≠o:=fun b hb e=>hno (by rw [← e]; exact Kg.2 hb)
 have hp:=Kf.1 jQ;have l9:g∈S.q.bp :: S.lp.map (·.2):=LB _ hg;have hgr: ∀ b,b∈((S.q.bs :: S.ls.map (·.2)) ++ ((S.q.be :: S.le.map (·.2)) ++ ((S.q.bb :: S.lb.map (·.2)) ++ ((S.q.bf :: S.lf.map (·.2)) ++ (S.q.bq :: S.lq.map (·.2))))))→b≠g:=fun b hb e=>hp.2.2 g l9 b hb e.symm
 have EI: ∀ b∈S.kids,b≠g:=fun b hb e=>yD.2.2 g (by unfold aZ.boxes; exact Lz _ l9) b hb e.symm
 have hbp:S.q.bp≠g:=fun e=>by
  have:=(Lp.1 hp.1).1
  rw [e] at this;exact this hg
 have lW: ∀ b,b∈(S.q.bp :: S.lp.map (·.2))→b≠o:=fun b hb=>hin b (.inl (by unfold aZ.boxes; exact Lz _ hb))
 have hbr: ∀ b,b∈((S.q.bs :: S.ls.map (·.2)) ++ ((S.q.be :: S.le.map (·.2)) ++ ((S.q.bb :: S.lb.map (·.2)) ++ ((S.q.bf :: S.lf.map (·.2)) ++ (S.q.bq :: S.lq.map (·.2))))))→w'.heap[b]? =w.heap[b]? :=fun b hb=>hs b (hgr b hb) (hin b (.inl (by unfold aZ.boxes; exact Ly _ hb)))
 have hkk: ∀ b∈S.kids,w'.heap[b]? =w.heap[b]? :=fun b hb=>hs b (EI b hb) (hin b (.inr hb))
 have hmem: ∀ (b:Nat),(b∈kids aR S.lp∨b∈kids aC S.lf∨b∈kids aU S.lq)→b∈S.kids:=fun b hb=>by simp only [aZ.kids,Kg]; exact hb
 refine ⟨ho,h.L8.sU (fun p _ _=>(hf p.1).1) hc (hs _ hbp (lW _ (by simp))) (fun b hb hne=>hs b hne (lW b (LB _ hb))),h.aj.same fun b hb=>hbr b (Lz _ hb),h.L9.same fun b hb=>hbr b (Ly _ (Lz _ hb)),h.ag.same fun b hb=>hbr b (Ly _ (Ly _ (Lz _ hb))),h.ae.same fun b hb=>hbr b (Ly _ (Ly _ (Ly _ (Lz _ hb)))),h.ai.same fun b hb=>hbr b (Ly _ (Ly _ (Ly _ (Ly _ hb)))),fun p hp'=> ?_,fun p hp'=>(h.eE p hp').same fun b hb=>hkk b (hmem b (.inr (.inl (Lq.2 ⟨p,hp',hb⟩)))),fun p hp'=>(h.eR p hp').same fun b hb=>hkk b (hmem b (.inr (.inr (Lq.2 ⟨p,hp',hb⟩)))),?_,h.low⟩
 ·obtain ⟨r,hr,rfl⟩:=yy.1 hp'
  have hm:aR.cO w' base r.1:=(h.eI r hr).same fun b hb=>hkk b (hmem b (.inl (Lq.2 ⟨r,hr,hb⟩)))
  split
  ·show w'.ownsRow base _ 4 (.slice (f r.1).aY (f r.1).prog.length (f r.1).bH) (f r.1).prog.length (fk.flat (f r.1).prog)
   rw [(hf r.1).2.1,(hf r.1).2.2.1,(hf r.1).2.2.2];exact hm
  ·exact hm
 ·have e1:(S.ju g f nx).boxes=S.boxes:=by simp only [aZ.boxes,aZ.ju,qb]
  have e2:(S.ju g f nx).kids=S.kids:=by simp only [aZ.kids,aZ.ju,GW iH]
  rw [e1,e2];exact hn
end
section
open Go.RowKit Go.Maps
attribute [local go_sem ↓] Kc Kd
def j7 (y:aD):aD:=⟨y.id,y.RX,y.prog,0,0,0,0,0,rM,y.got,y.code,0⟩
def sW (y:ao):ao:=⟨j7 y.toaD,y.aY,y.bH⟩
theorem mN (x:ao) (w:World):Calls J3 100 #[.agg x.row] w fun e w'=>e= .returned (.agg #[.int .i64 x.id,.int .i64 x.RX,.slice x.aY x.prog.length x.bH,.int .i64 0,.int .i64 0,.int .i64 0,.int .i64 0,.int .i64 0,.string ⟨#[]⟩,.string x.got,.int .i64 x.code,.int .i64 0])∧Below w.heap.size w w':=by
 have HB:Hid (Below w.heap.size w ((w.alloc (.cells x.row 43)).alloc (.cells cE 43))∧((w.alloc (.cells x.row 43)).alloc (.cells cE 43)).heap[w.heap.size+1]? =some (.cells cE 43 (0,0))):=⟨((Kp _ _).alloc (Ki _) _).alloc (by simp) _,heap_alloc2_new _ _ _⟩
 go_enter Tryz.func100,Tryz.ntmps100
 go_wp2_with (refine wpList_store_row rfl 43 (Operand.tmp 2) (Operand.tmp 13) rfl (w.heap.size+1) _ _ #[.int .i64 x.id,.int .i64 x.RX,.slice x.aY x.prog.length x.bH,.int .i64 0,.int .i64 0,.int .i64 0,.int .i64 0,.int .i64 0,.string ⟨#[]⟩,.string x.got,.int .i64 x.code,.int .i64 0] rfl rfl HB.I.2 (by kernel_rfl) rfl (by kernel_rfl) ?_);refine bodyPost_ret (v:= .agg #[.int .i64 x.id,.int .i64 x.RX,.slice x.aY x.prog.length x.bH,.int .i64 0,.int .i64 0,.int .i64 0,.int .i64 0,.int .i64 0,.string ⟨#[]⟩,.string x.got,.int .i64 x.code,.int .i64 0]) (results_cell_row Tryz.results100 _ _ (w.heap.size+1) _ _ (0,0) _ rfl (setRow_heap _ _ _ _ _ _ HB.I.2) Tryz.underlying43 rfl (by kernel_rfl)) rfl ?_;exact ⟨rfl,below_setRow HB.I.1 (by omega) _⟩
def Ba (O gs n:Nat) (q:af) (x:ao) (w':World):Prop:=w'.cell? ⟨O,2,none⟩=some (.slice (some ⟨gs,0,none⟩) q.L8.length q.aW)∧w'.cell? ⟨gs,n * 12,none⟩=some (.int .i64 x.id)∧w'.cell? ⟨gs,n * 12+1,none⟩=some (.int .i64 x.RX)∧w'.cell? ⟨gs,n * 12+2,none⟩=some (.slice x.aY x.prog.length x.bH)∧w'.cell? ⟨gs,n * 12+3,none⟩=some (.int .i64 x.Md)∧w'.cell? ⟨gs,n * 12+4,none⟩=some (.int .i64 x.pc)∧w'.cell? ⟨gs,n * 12+5,none⟩=some (.int .i64 x.left)∧w'.cell? ⟨gs,n * 12+6,none⟩=some (.int .i64 x.Mg)∧w'.cell? ⟨gs,n * 12+7,none⟩=some (.int .i64 x.on)∧w'.cell? ⟨gs,n * 12+8,none⟩=some (.string x.held)∧w'.cell? ⟨gs,n * 12+9,none⟩=some (.string x.got)∧w'.cell? ⟨gs,n * 12+10,none⟩=some (.int .i64 x.code)∧w'.cell? ⟨gs,n * 12+11,none⟩=some (.int .i64 x.RU)
end
end Go.Proofs.YtkbcplnlehdjfaaGreat
