/- What the proof leans on, part 3. -/
import Derived.Test.YteidkehoekbcaaaGreatOwnC1
import Derived.Test.YteidkehoekbcaaaGreatOwnC2
import Derived.Deep.AppendLies
set_option maxRecDepth 100000
set_option maxHeartbeats 8000000
open Array renaming getElem?_eq_some_iff->J2
open Go renaming block_lt_of_cell->Le,bodyPost_ret->KT,cell_of_row->K5,heap_alloc_new->Kj,wp_at_succ->Kd,wp_at_zero->Kc
open Go.Proofs.Tryz renaming prog->J3
open Go.RowKit.Below renaming refl->Kp
open Go.World renaming cell?_of_block->J1
open List renaming append_assoc->Lm,append_nil->QO,drop_length->adW,eq_nil_of_length_eq_zero->adU,filterMap_append->LW,filterMap_cons->LH,find?_map->aeu,find?_some->PS,flatMap_cons->aez,getElem?_eq_getElem->Kz,length_append->Lf,length_singleton->adg,length_take->Lk,mem_append->Kg,mem_append_left->Lz,mem_append_right->Ly,mem_cons->Kt,mem_cons_of_mem->LB,mem_filterMap->Lq,mem_flatMap->Rt,mem_map->Lr,mem_of_find?_eq_some->RG,mem_of_getElem?->KA,nodup_append->Kf,nodup_cons->Lp,not_mem_nil->Ku,take_length->LQ,take_of_length_le->KF
open Nat renaming add_assoc->adV,add_zero->PT,le_refl->Ki,le_trans->LG,zero_le->Ky
open Option renaming map_eq_some_iff->Kw,map_map->aeF
open Option.some renaming inj->KC,injEq->LF

namespace Go.Proofs.YteidkehoekbcaaaGreat
section
open Go.RowKit
def mY {α:Type} (K:Kind α) (T:TypeId) (w:World) (l:List α) (e:Ending) (w':World):Prop:= ∃ a cap,e= .returned (.slice a l.length cap)∧w'.ownsRow w.heap.size T K.n (.slice a l.length cap) l.length (K.flat l)∧Below w.heap.size w w'
section
variable {ops:Array Oper} {rest:List Oper} {o:Oper} {a:Act} {w:World} {Q:Exit→Act→World→Prop} {fn:Func} {R:Ending→World→Prop} {p u:Tmp} {old:Array Value}
theorem ec (n m:Nat) {g:Nat} (cs:Array Value) (hg:w.heap[g]? =some (.cells old 48 (0,0))) (h:wpList J3 ops Q rest (a.put o.dst undef) (w.setRow g cs)) (hgd:o.guard=none:=by exact rfl) (ho:o.op= .store 48 (.tmp n) (.tmp m):=by exact rfl)
  (hx:a.eval (.tmp n)= .pointer (some ⟨g,0,none⟩):=by exact rfl) (hy:a.eval (.tmp m)= .agg cs:=by exact rfl) (hi:(Tryz.prog.info? 48).map (·.size)=some cs.size:=by kernel_rfl) (hs:old.size=cs.size:=by exact rfl) (h1:cs.all (·.oneCell')=true:=by kernel_rfl):wpList J3 ops Q (o :: rest) a w:=
 wpList_store_row hgd 48 (.tmp n) (.tmp m) ho g _ old cs hx hy hg hi hs h1 h
theorem gZ (hr:fn.results= #[.cell p 48]) {g:Nat} {cs:Array Value} (hg:w.heap[g]? =some (.cells old 48 (0,0))) (h:R (.returned (.agg cs)) (w.setRow g cs)) (hp:a.tmps.getD p undef= .pointer (some ⟨g,0,none⟩):=by exact rfl) (hd:a.defers= [] :=by exact rfl)
  (hi:(Tryz.prog.info? 48).map (·.size)=some cs.size:=by kernel_rfl):bodyPost J3 fn R .ret a (w.setRow g cs):=
 KT (v:= .agg cs) (results_cell_row hr _ _ g _ _ (0,0) _ hp (setRow_heap _ _ _ _ _ _ hg) Tryz.underlying48 rfl hi) hd h
end
section
variable {α:Type} {N:gd α} {w w':World} {base g:Nat} {A B:List α} {x y:α}
structure fp (N:gd α) (w:World) (base g:Nat) (l:List α):Prop where
 mine: ∀ z∈l,N.cO w base z
 nodup:(g :: l.filterMap N.bt).Nodup
theorem fp.keep {l:List α} (h:fp N w base g l) (hk:aI w w' [g]):fp N w' base g l:=
 ⟨fun z hz=>(h.mine z hz).same fun b hb=>hk.same b ((h.mine z hz).lt hb).2 fun hm=>by
  simp only [Kt,Ku,or_false] at hm;subst hm;exact (Lp.1 h.nodup).1 (Lq.2 ⟨z,hz,hb⟩),h.nodup⟩
theorem fp.ju (h:fp N w base g (A ++ x :: B)) (hk:N.bt y=N.bt x) (hm:N.cO w base y):fp N w base g (A ++ y :: B):=by
 refine ⟨fun z hz=> ?_,?_⟩
 ·rcases Kg.1 hz with hz | hz
  ·exact h.mine z (Lz _ hz)
  ·rcases Kt.1 hz with rfl | hz
   ·exact hm
   ·exact h.mine z (Ly _ (LB _ hz))
 ·have:=h.nodup
  rw [LW,LH] at this ⊢;rw [hk];exact this
theorem fp.inner (h:fp N w base g (A ++ x :: B)) (hw:aI w w' (blk (N.ad x))) (hk:N.bt y=N.bt x) (hm:N.cO w' base y):fp N w' base g (A ++ y :: B):=by
 have hmem: ∀ b,b∈blk (N.ad x)↔N.bt x=some b:=fun b=>fZ
 have hn:=(Lp.1 h.nodup).2;rw [LW] at hn;have key: ∀ z∈A ++ B,∀ b,N.bt z=some b→ ¬ N.bt x=some b:=fun z hz b hb hx=>by
  rw [Kf] at hn;rcases Kg.1 hz with hz | hz
  ·exact hn.2.2 b (Lq.2 ⟨z,hz,hb⟩) b (Lq.2 ⟨x,by simp,hx⟩) rfl
  ·have h2:=hn.2.1
   rw [LH,hx,Lp] at h2;exact h2.1 (Lq.2 ⟨z,hz,hb⟩)
 have hz: ∀ z∈A ++ B,N.cO w base z→N.cO w' base z:=fun z hz hmz=>hmz.same fun b hb=>hw.same b (hmz.lt hb).2 fun hm'=>key z hz b hb ((hmem b).1 hm')
 refine ⟨fun z hz'=> ?_,?_⟩
 ·rcases Kg.1 hz' with h1 | h1
  ·exact hz z (Lz _ h1) (h.mine z (Lz _ h1))
  ·rcases Kt.1 h1 with rfl | h1
   ·exact hm
   ·exact hz z (Ly _ h1) (h.mine z (Ly _ (LB _ h1)))
 ·have:=h.nodup
  rw [LW,LH] at this ⊢;rw [hk];exact this
theorem fp.apart {l:List α} (h:fp N w base g l) {z:α} (hz:z∈l):g∉blk (N.ad z):=fun hm=>
 (Lp.1 h.nodup).1 (Lq.2 ⟨z,hz,fZ.1 hm⟩)
end
end
section
open Go.RowKit
attribute [local go_sem ↓] Kc Kd
def fj (k:Int) (_:dN):dN:=(k,k+1,k+1+1,cu (k+1+1+1))
theorem xP (a:Option Addr) (l:List dN) (cap:Nat) (k:Int) (w:World) (base:Nat) (hl:l.length≤1048576) (h0:1≤k) (h1:k+(aF (fun _=>4) l:Nat)≤90000000) (ho:w.ownsRow base 234 4 (.slice a l.length cap) l.length (fk.flat l)):
  Calls J3 117 #[.slice a l.length cap,.int .i64 k] w fun e w'=>e= .returned (.int .i64 (k+(aF (fun _=>4) l:Nat)))∧w'.ownsRow base 234 4 (.slice a l.length cap) l.length (fk.flat (aJ fj (fun _=>4) k l))∧aI w w' (blk a):=by
 by_cases hz:l.length=0
 ·have hl0:l= [] :=adU hz
  subst hl0;have HO:Hid (w.ownsRow base 234 4 (.slice a 0 cap) 0 (fk.flat [])):=ho;clear ho
  go_enter Tryz.func117,Tryz.ntmps117
  go_wp2_with fail
  go_loopw [1,5] (fun q i wr=>q= .int .i64 k∧i= .int .i64 0∧wr=w) (fun _ _ _=>0)
  case atStart=>exact ⟨rfl,rfl,rfl⟩
  case round=>
   obtain ⟨rfl,rfl,rfl⟩:=hrel;go_wp2;go_ret;exact ⟨ck (by simp [aF]),HO.I,aI.refl _ _⟩
 obtain ⟨g,rfl,hrow⟩:=bl.fX (K:=fk) ho hz;have HR:Hid (bl fk 234 w base g cap l):=hrow;have HB:Hid (k+(aF (fun _:dN=>4) l:Nat)≤90000000):=h1;clear ho hrow h1 hz
 go_enter Tryz.func117,Tryz.ntmps117
 go_wp2_with fail
 go_loopw [1,5] (fun q i wr=> ∃ (j:Nat) (m:Int),j≤l.length∧i= .int .i64 j∧q= .int .i64 m∧1≤m∧m≤90000000∧Hid (m=k+(aF (fun _:dN=>4) (l.take j):Nat)∧bl fk 234 wr base g cap (aJ fj (fun _=>4) k (l.take j) ++ l.drop j)∧aI w wr [g])) (fun _ i _=>l.length - (intOf i).toNat)
 case atStart=>exact ⟨0,k,Ky _,rfl,rfl,h0,by have:=HB.I; omega,⟨by simp [aF],HR.I,aI.refl _ _⟩⟩
 case round=>
  clear HR;obtain ⟨j,m,hj,rfl,rfl,m0,m1,HA⟩:=hrel;by_cases hlt:j < l.length
  ·have i0:(0:Int)≤(j:Int):=by omega
   have i1:(j:Int) < (l.length:Int):=by omega
   obtain ⟨x,hx⟩: ∃ x,l[j]? =some x:=⟨_,Kz hlt⟩
   have pI:l.drop j=x :: l.drop (j+1):=mz hx;have qw:=du (c:=fun _:dN=>4) hx;have hup:=gK (c:=fun _:dN=>4) hx;have HX:Hid (l[j]? =some x∧m+4≤90000000∧m+4=k+(aF (fun _:dN=>4) (l.take (j+1)):Nat)):=⟨hx,by have:=HB.I; have:=HA.I.1; omega,by have:=HA.I.1; omega⟩
   have HW:Hid (bl fk 234 wr base g cap (aJ fj (fun _=>4) k (l.take j) ++ x :: l.drop (j+1))∧(aJ fj (fun _=>4) k (l.take j)).length=j):=⟨by have:=HA.I.2.1; rwa [pI] at this,by rw [bE,Lk]; omega⟩
   clear hx pI qw hup;have m2:m+4≤90000000:=HX.I.2.1;have hgl:g < wr.heap.size:=HW.I.1.lt;have q0:=bl.eO HW.I.1 HW.I.2 (r:=0) (by decide:0 < fk.n);obtain ⟨⟨u0,c0⟩,f0⟩:(∃ u,wr.cell? ⟨g,j * 4,none⟩=some u)∧wr.frozen? ⟨g,j * 4,none⟩=false:=q0;have q1:=bl.eO HW.I.1 HW.I.2 (r:=1) (by decide:1 < fk.n);obtain ⟨⟨u1,c1⟩,f1⟩:(∃ u,wr.cell? ⟨g,j * 4+1,none⟩=some u)∧wr.frozen? ⟨g,j * 4+1,none⟩=false:=q1;have q2:=bl.eO HW.I.1 HW.I.2 (r:=2) (by decide:2 < fk.n);obtain ⟨⟨u2,c2⟩,f2⟩:(∃ u,wr.cell? ⟨g,j * 4+2,none⟩=some u)∧wr.frozen? ⟨g,j * 4+2,none⟩=false:=q2;have h5:=bl.part (K:=fk) (x:=(x.1,x.2.1,x.2.2.1,x.2.2.2)) (y:=(m,m+1,m+1+1,x.2.2.2)) (j:=0) (vs:= [.int .i64 (m),.int .i64 (m+1),.int .i64 (m+1+1)]) HW.I.1 (by show 0+3≤4; omega) (fun r hr=>by match r,hr with | 0,_=>rfl | 1,_=>rfl | 2,_=>rfl) (fun r hr hn=>by match r,hr,hn with | 0,_,hn=>exact absurd ⟨by omega,by show 0 < 0+3; omega⟩ hn | 1,_,hn=>exact absurd ⟨by omega,by show 1 < 0+3; omega⟩ hn | 2,_,hn=>exact absurd ⟨by omega,by show 2 < 0+3; omega⟩ hn | 3,_,_=>rfl );rw [HW.I.2,show fk.n=4 from rfl] at h5;simp only [bn,adV,Nat.reduceAdd,PT] at h5;have ES:Hid (bl fk 234 (((wr.setCell ⟨g,j * 4,none⟩ (.int .i64 (m))).setCell ⟨g,j * 4+1,none⟩ (.int .i64 (m+1))).setCell ⟨g,j * 4+2,none⟩ (.int .i64 (m+1+1))) base g cap (aJ fj (fun _=>4) k (l.take j) ++ (m,m+1,m+1+1,x.2.2.2) :: l.drop (j+1))∧(aJ fj (fun _=>4) k (l.take j)).length=j):=⟨h5,HW.I.2⟩
   have h6:aI w (bn wr g (j * 4) [.int .i64 (m),.int .i64 (m+1),.int .i64 (m+1+1)]) [g] :=HA.I.2.2.trans (aI.set _ (by simp));simp only [bn,adV,Nat.reduceAdd] at h6;have zy:Hid (aI w (((wr.setCell ⟨g,j * 4,none⟩ (.int .i64 (m))).setCell ⟨g,j * 4+1,none⟩ (.int .i64 (m+1))).setCell ⟨g,j * 4+2,none⟩ (.int .i64 (m+1+1))) [g]):=h6;clear h6;clear h5;go_wp2_with fail;refine (fh (m+1+1+1) (by omega) (by omega) _).mono ?_;rintro e v3 ⟨rfl,hb3⟩;have Fx:Hid (bl fk 234 v3 base g cap (aJ fj (fun _=>4) k (l.take j) ++ (m,m+1,m+1+1,x.2.2.2) :: l.drop (j+1))∧(aJ fj (fun _=>4) k (l.take j)).length=j):=⟨ES.I.1.same (hb3.block g ES.I.1.lt),ES.I.2⟩
   have HV3K:Hid (aI w v3 [g]):=zy.I.trans (aI.dI hb3);clear hb3;have q3:=bl.eO Fx.I.1 Fx.I.2 (r:=3) (by decide:3 < fk.n);obtain ⟨⟨u3,c3⟩,f3⟩:(∃ u,v3.cell? ⟨g,j * 4+3,none⟩=some u)∧v3.frozen? ⟨g,j * 4+3,none⟩=false:=q3;have h5:=bl.part (K:=fk) (x:=(m,m+1,m+1+1,x.2.2.2)) (y:=(m,m+1,m+1+1,cu (m+1+1+1))) (j:=3) (vs:= [.string (cu (m+1+1+1))]) Fx.I.1 (by show 3+1≤4; omega) (fun r hr=>by match r,hr with | 0,_=>rfl) (fun r hr hn=>by match r,hr,hn with | 0,_,_=>rfl | 1,_,_=>rfl | 2,_,_=>rfl | 3,_,hn=>exact absurd ⟨by omega,by show 3 < 3+1; omega⟩ hn );rw [Fx.I.2,show fk.n=4 from rfl] at h5;simp only [bn] at h5;have mH:Hid (bl fk 234 (v3.setCell ⟨g,j * 4+3,none⟩ (.string (cu (m+1+1+1)))) base g cap (aJ fj (fun _=>4) k (l.take j) ++ (m,m+1,m+1+1,cu (m+1+1+1)) :: l.drop (j+1))∧(aJ fj (fun _=>4) k (l.take j)).length=j):=⟨h5,Fx.I.2⟩
   have h6:aI w (bn v3 g (j * 4+3) [.string (cu (m+1+1+1))]) [g] :=HV3K.I.trans (aI.set _ (by simp));simp only [bn] at h6;have HS1K:Hid (aI w (v3.setCell ⟨g,j * 4+3,none⟩ (.string (cu (m+1+1+1)))) [g]):=h6;clear h6;clear h5;have HN:Hid (bl fk 234 (v3.setCell ⟨g,j * 4+3,none⟩ (.string (cu (m+1+1+1)))) base g cap (aJ fj (fun _=>4) k (l.take (j+1)) ++ l.drop (j+1))∧aI w (v3.setCell ⟨g,j * 4+3,none⟩ (.string (cu (m+1+1+1)))) [g]):=⟨by rw [kE HX.I.1,Lm,← HA.I.1]; exact mH.I.1,HS1K.I⟩
   go_wp2;go_roundw
   case rel=>exact ⟨j+1,m+4,by omega,by go_num,by go_num,by omega,by omega,⟨HX.I.2.2,HN.I.1,HN.I.2⟩⟩
   case measure=>simp [intOf]; omega
  ·have i1: ¬ (j:Int) < (l.length:Int):=by omega
   have ej:j=l.length:=by omega
   subst ej;have HE:Hid (bl fk 234 wr base g cap (aJ fj (fun _=>4) k l)∧m=k+(aF (fun _:dN=>4) l:Nat)):=by have h5:=HA.I.2.1; have h6:=HA.I.1; rw [LQ,adW,QO] at h5; rw [LQ] at h6; exact ⟨h5,h6⟩
   go_wp2;go_ret;refine ⟨ck HE.I.2,?_,HA.I.2.2.mono (by simp [blk])⟩;have h7:=HE.I.1.owns;rw [bE] at h7;exact h7
def DI (w:World) (a:Option Addr) (l:List dN) (g j:Nat) (m:Int) (w':World):Prop:=w'.cell? ⟨g,j * 4+3,none⟩=some (.string (cu m))∧Hid (fk.bU w' a l∧Below w.heap.size w w')
theorem xg (a:Option Addr) (l:List dN) (cap:Nat) (k:Int) (w:World) (hl:l.length≤1048576) (h0:1≤k) (h1:k+(aF (fun _=>4) l:Nat)≤90000000) (hr:fk.bU w a (aJ fj (fun _=>4) k l)):
  Calls J3 120 #[.slice a l.length cap,.int .i64 k] w fun e w'=>e= .returned (.int .i64 (k+(aF (fun _=>4) l:Nat)))∧Below w.heap.size w w':=by
 have HR:Hid (fk.bU w a (aJ fj (fun _=>4) k l)∧k+(aF (fun _:dN=>4) l:Nat)≤90000000):=⟨hr,h1⟩
 clear hr h1
 go_enter Tryz.func120,Tryz.ntmps120
 go_wp2_with fail
 go_loopw [1,5] (fun q i wr=> ∃ (j:Nat) (m:Int),j≤l.length∧i= .int .i64 j∧q= .int .i64 m∧1≤m∧m≤90000000∧Hid (m=k+(aF (fun _:dN=>4) (l.take j):Nat)∧Below w.heap.size w wr)) (fun _ i _=>l.length - (intOf i).toNat)
 case atStart=>exact ⟨0,k,Ky _,rfl,rfl,h0,by have:=HR.I.2; omega,⟨by simp [aF],Kp _ _⟩⟩
 case round=>
  obtain ⟨j,m,hj,rfl,rfl,m0,m1,HA⟩:=hrel;by_cases hlt:j < l.length
  ·have i0:(0:Int)≤(j:Int):=by omega
   have i1:(j:Int) < (l.length:Int):=by omega
   obtain ⟨x,hx⟩: ∃ x,l[j]? =some x:=⟨_,Kz hlt⟩
   have qw:=du (c:=fun _:dN=>4) hx;have hup:=gK (c:=fun _:dN=>4) hx;have hg:=jK (f:=fj) (c:=fun _:dN=>4) (k:=k) hx;rw [← HA.I.1] at hg;obtain ⟨g,ha,hat⟩:=(HR.I.1.below HA.I.2).at hg;have c0:wr.cell? ⟨g,j * 4,none⟩=some (.int .i64 (m)):=hat 0 _ rfl;have c1:wr.cell? ⟨g,j * 4+1,none⟩=some (.int .i64 (m+1)):=hat 1 _ rfl;have c2:wr.cell? ⟨g,j * 4+2,none⟩=some (.int .i64 (m+1+1)):=hat 2 _ rfl;have c3:wr.cell? ⟨g,j * 4+3,none⟩=some (.string (cu (m+1+1+1))):=hat 3 _ rfl;have HX:Hid (m+4≤90000000∧m+4=k+(aF (fun _:dN=>4) (l.take (j+1)):Nat)∧a=some ⟨g,0,none⟩∧(aJ fj (fun _=>4) k l)[j]? =some (fj m x)):=⟨by have:=HR.I.2; have:=HA.I.1; omega,by have:=HA.I.1; omega,ha,hg⟩
   have m2:m+4≤90000000:=HX.I.1;subst ha;clear hx qw hup hg hat;go_wp2_with fail;have HT:Hid (DI w (some ⟨g,0,none⟩) (aJ fj (fun _=>4) k l) g j (m+1+1+1) wr.drew):=⟨c3,(HR.I.1.below HA.I.2).below (Kp _ _).drew,HA.I.2.drew⟩
   clear c0 c1 c2 c3;refine aT (DI w (some ⟨g,0,none⟩) (aJ fj (fun _=>4) k l) g j (m+1+1+1)) (by kernel_rfl) HT.I ?_
   iterate 6 (refine PI ?_ (hy:=fun w0 hS0=>by obtain ⟨q0,hH⟩:=hS0; go_simp; try with_reducible rfl))
   refine cl (.string (cu (m+1+1+1))) 118 #[.int .i64 (m+1+1+1)] ?_ ?_ ?_
   ·intro w0 hS0
    obtain ⟨q0,hH⟩:=hS0
    go_simp
    try with_reducible rfl
   ·intro w0 hS0
    refine (fh (m+1+1+1) (by omega) (by omega) w0).mono ?_;rintro e w2 ⟨rfl,hb2⟩;exact ⟨rfl,(J1 (hb2.block g (Le hS0.1))).trans hS0.1,hS0.2.I.1.below hb2,hS0.2.I.2.trans (hb2.mono hS0.2.I.2.size)⟩
   simp only [pt,sb,s0,s1]
   (refine PI ?_ (hy:=fun w0 hS0=>by obtain ⟨q0,hH⟩:=hS0; go_simp; try with_reducible rfl))
   refine bk (by kernel_rfl) ?_ _;intro w1 cm;have HZ:Hid (Below w.heap.size w w1):=cm.2.I.2;clear cm HT;go_wp2;go_roundw
   case rel=>exact ⟨j+1,m+4,by omega,by go_num,by go_num,by omega,by omega,⟨HX.I.2.1,HZ.I⟩⟩
   case measure=>simp [intOf]; omega
  ·have i1: ¬ (j:Int) < (l.length:Int):=by omega
   have HE:Hid (m=k+(aF (fun _:dN=>4) l:Nat)):=by have h6:=HA.I.1; rw [KF (by omega)] at h6; exact h6
   go_wp2;go_ret;exact ⟨ck HE.I,HA.I.2⟩
def hJ (k:Int) (_:bD):bD:=⟨k,k+1,k+1+1⟩
theorem CF (a:Option Addr) (l:List bD) (cap:Nat) (k:Int) (w:World) (base:Nat) (hl:l.length≤1048576) (h0:1≤k) (h1:k+(aF (fun _=>3) l:Nat)≤90000000) (ho:w.ownsRow base 184 3 (.slice a l.length cap) l.length (dm.flat l)):
  Calls J3 58 #[.slice a l.length cap,.int .i64 k] w fun e w'=>e= .returned (.int .i64 (k+(aF (fun _=>3) l:Nat)))∧w'.ownsRow base 184 3 (.slice a l.length cap) l.length (dm.flat (aJ hJ (fun _=>3) k l))∧aI w w' (blk a):=by
 by_cases hz:l.length=0
 ·have hl0:l= [] :=adU hz
  subst hl0;have HO:Hid (w.ownsRow base 184 3 (.slice a 0 cap) 0 (dm.flat [])):=ho;clear ho
  go_enter Tryz.func58,Tryz.ntmps58
  go_wp2_with fail
  go_loopw [1,5] (fun q i wr=>q= .int .i64 k∧i= .int .i64 0∧wr=w) (fun _ _ _=>0)
  case atStart=>exact ⟨rfl,rfl,rfl⟩
  case round=>
   obtain ⟨rfl,rfl,rfl⟩:=hrel;go_wp2;go_ret;exact ⟨ck (by simp [aF]),HO.I,aI.refl _ _⟩
 obtain ⟨g,rfl,hrow⟩:=bl.fX (K:=dm) ho hz;have HR:Hid (bl dm 184 w base g cap l):=hrow;have HB:Hid (k+(aF (fun _:bD=>3) l:Nat)≤90000000):=h1;clear ho hrow h1 hz
 go_enter Tryz.func58,Tryz.ntmps58
 go_wp2_with fail
 go_loopw [1,5] (fun q i wr=> ∃ (j:Nat) (m:Int),j≤l.length∧i= .int .i64 j∧q= .int .i64 m∧1≤m∧m≤90000000∧Hid (m=k+(aF (fun _:bD=>3) (l.take j):Nat)∧bl dm 184 wr base g cap (aJ hJ (fun _=>3) k (l.take j) ++ l.drop j)∧aI w wr [g])) (fun _ i _=>l.length - (intOf i).toNat)
 case atStart=>exact ⟨0,k,Ky _,rfl,rfl,h0,by have:=HB.I; omega,⟨by simp [aF],HR.I,aI.refl _ _⟩⟩
 case round=>
  clear HR;obtain ⟨j,m,hj,rfl,rfl,m0,m1,HA⟩:=hrel;by_cases hlt:j < l.length
  ·have i0:(0:Int)≤(j:Int):=by omega
   have i1:(j:Int) < (l.length:Int):=by omega
   obtain ⟨x,hx⟩: ∃ x,l[j]? =some x:=⟨_,Kz hlt⟩
   have pI:l.drop j=x :: l.drop (j+1):=mz hx;have qw:=du (c:=fun _:bD=>3) hx;have hup:=gK (c:=fun _:bD=>3) hx;have HX:Hid (l[j]? =some x∧m+3≤90000000∧m+3=k+(aF (fun _:bD=>3) (l.take (j+1)):Nat)):=⟨hx,by have:=HB.I; have:=HA.I.1; omega,by have:=HA.I.1; omega⟩
   have HW:Hid (bl dm 184 wr base g cap (aJ hJ (fun _=>3) k (l.take j) ++ x :: l.drop (j+1))∧(aJ hJ (fun _=>3) k (l.take j)).length=j):=⟨by have:=HA.I.2.1; rwa [pI] at this,by rw [bE,Lk]; omega⟩
   clear hx pI qw hup;have m2:m+3≤90000000:=HX.I.2.1;have hgl:g < wr.heap.size:=HW.I.1.lt;have q0:=bl.eO HW.I.1 HW.I.2 (r:=0) (by decide:0 < dm.n);obtain ⟨⟨u0,c0⟩,f0⟩:(∃ u,wr.cell? ⟨g,j * 3,none⟩=some u)∧wr.frozen? ⟨g,j * 3,none⟩=false:=q0;have q1:=bl.eO HW.I.1 HW.I.2 (r:=1) (by decide:1 < dm.n);obtain ⟨⟨u1,c1⟩,f1⟩:(∃ u,wr.cell? ⟨g,j * 3+1,none⟩=some u)∧wr.frozen? ⟨g,j * 3+1,none⟩=false:=q1;have q2:=bl.eO HW.I.1 HW.I.2 (r:=2) (by decide:2 < dm.n);obtain ⟨⟨u2,c2⟩,f2⟩:(∃ u,wr.cell? ⟨g,j * 3+2,none⟩=some u)∧wr.frozen? ⟨g,j * 3+2,none⟩=false:=q2;have h5:=bl.part (K:=dm) (x:=(⟨x.id,x.n,x.max⟩:bD)) (y:=(⟨m,m+1,m+1+1⟩:bD)) (j:=0) (vs:= [.int .i64 (m),.int .i64 (m+1),.int .i64 (m+1+1)]) HW.I.1 (by show 0+3≤3; omega) (fun r hr=>by match r,hr with | 0,_=>rfl | 1,_=>rfl | 2,_=>rfl) (fun r hr hn=>by match r,hr,hn with | 0,_,hn=>exact absurd ⟨by omega,by show 0 < 0+3; omega⟩ hn | 1,_,hn=>exact absurd ⟨by omega,by show 1 < 0+3; omega⟩ hn | 2,_,hn=>exact absurd ⟨by omega,by show 2 < 0+3; omega⟩ hn );rw [HW.I.2,show dm.n=3 from rfl] at h5;simp only [bn,adV,Nat.reduceAdd,PT] at h5;have ES:Hid (bl dm 184 (((wr.setCell ⟨g,j * 3,none⟩ (.int .i64 (m))).setCell ⟨g,j * 3+1,none⟩ (.int .i64 (m+1))).setCell ⟨g,j * 3+2,none⟩ (.int .i64 (m+1+1))) base g cap (aJ hJ (fun _=>3) k (l.take j) ++ (⟨m,m+1,m+1+1⟩:bD) :: l.drop (j+1))∧(aJ hJ (fun _=>3) k (l.take j)).length=j):=⟨h5,HW.I.2⟩
   have h6:aI w (bn wr g (j * 3) [.int .i64 (m),.int .i64 (m+1),.int .i64 (m+1+1)]) [g] :=HA.I.2.2.trans (aI.set _ (by simp));simp only [bn,adV,Nat.reduceAdd] at h6;have zy:Hid (aI w (((wr.setCell ⟨g,j * 3,none⟩ (.int .i64 (m))).setCell ⟨g,j * 3+1,none⟩ (.int .i64 (m+1))).setCell ⟨g,j * 3+2,none⟩ (.int .i64 (m+1+1))) [g]):=h6;clear h6;clear h5;have HN:Hid (bl dm 184 (((wr.setCell ⟨g,j * 3,none⟩ (.int .i64 (m))).setCell ⟨g,j * 3+1,none⟩ (.int .i64 (m+1))).setCell ⟨g,j * 3+2,none⟩ (.int .i64 (m+1+1))) base g cap (aJ hJ (fun _=>3) k (l.take (j+1)) ++ l.drop (j+1))∧aI w (((wr.setCell ⟨g,j * 3,none⟩ (.int .i64 (m))).setCell ⟨g,j * 3+1,none⟩ (.int .i64 (m+1))).setCell ⟨g,j * 3+2,none⟩ (.int .i64 (m+1+1))) [g]):=⟨by rw [kE HX.I.1,Lm,← HA.I.1]; exact ES.I.1,zy.I⟩
   go_wp2;go_roundw
   case rel=>exact ⟨j+1,m+3,by omega,by go_num,by go_num,by omega,by omega,⟨HX.I.2.2,HN.I.1,HN.I.2⟩⟩
   case measure=>simp [intOf]; omega
  ·have i1: ¬ (j:Int) < (l.length:Int):=by omega
   have ej:j=l.length:=by omega
   subst ej;have HE:Hid (bl dm 184 wr base g cap (aJ hJ (fun _=>3) k l)∧m=k+(aF (fun _:bD=>3) l:Nat)):=by have h5:=HA.I.2.1; have h6:=HA.I.1; rw [LQ,adW,QO] at h5; rw [LQ] at h6; exact ⟨h5,h6⟩
   go_wp2;go_ret;refine ⟨ck HE.I.2,?_,HA.I.2.2.mono (by simp [blk])⟩;have h7:=HE.I.1.owns;rw [bE] at h7;exact h7
theorem Cn (a:Option Addr) (l:List bD) (cap:Nat) (k:Int) (w:World) (hl:l.length≤1048576) (h0:1≤k) (h1:k+(aF (fun _=>3) l:Nat)≤90000000) (hr:dm.bU w a (aJ hJ (fun _=>3) k l)):
  Calls J3 64 #[.slice a l.length cap,.int .i64 k] w fun e w'=>e= .returned (.int .i64 (k+(aF (fun _=>3) l:Nat)))∧Below w.heap.size w w':=by
 have HR:Hid (dm.bU w a (aJ hJ (fun _=>3) k l)∧k+(aF (fun _:bD=>3) l:Nat)≤90000000):=⟨hr,h1⟩
 clear hr h1
 go_enter Tryz.func64,Tryz.ntmps64
 go_wp2_with fail
 go_loopw [1,5] (fun q i wr=> ∃ (j:Nat) (m:Int),j≤l.length∧i= .int .i64 j∧q= .int .i64 m∧1≤m∧m≤90000000∧Hid (m=k+(aF (fun _:bD=>3) (l.take j):Nat)∧Below w.heap.size w wr)) (fun _ i _=>l.length - (intOf i).toNat)
 case atStart=>exact ⟨0,k,Ky _,rfl,rfl,h0,by have:=HR.I.2; omega,⟨by simp [aF],Kp _ _⟩⟩
 case round=>
  obtain ⟨j,m,hj,rfl,rfl,m0,m1,HA⟩:=hrel;by_cases hlt:j < l.length
  ·have i0:(0:Int)≤(j:Int):=by omega
   have i1:(j:Int) < (l.length:Int):=by omega
   obtain ⟨x,hx⟩: ∃ x,l[j]? =some x:=⟨_,Kz hlt⟩
   have qw:=du (c:=fun _:bD=>3) hx;have hup:=gK (c:=fun _:bD=>3) hx;have hg:=jK (f:=hJ) (c:=fun _:bD=>3) (k:=k) hx;rw [← HA.I.1] at hg;obtain ⟨g,ha,hat⟩:=(HR.I.1.below HA.I.2).at hg;have c0:wr.cell? ⟨g,j * 3,none⟩=some (.int .i64 (m)):=hat 0 _ rfl;have c1:wr.cell? ⟨g,j * 3+1,none⟩=some (.int .i64 (m+1)):=hat 1 _ rfl;have c2:wr.cell? ⟨g,j * 3+2,none⟩=some (.int .i64 (m+1+1)):=hat 2 _ rfl;have HX:Hid (m+3≤90000000∧m+3=k+(aF (fun _:bD=>3) (l.take (j+1)):Nat)∧a=some ⟨g,0,none⟩∧(aJ hJ (fun _=>3) k l)[j]? =some (hJ m x)):=⟨by have:=HR.I.2; have:=HA.I.1; omega,by have:=HA.I.1; omega,ha,hg⟩
   have m2:m+3≤90000000:=HX.I.1;subst ha;clear hx qw hup hg hat;go_wp2;go_roundw
   case rel=>exact ⟨j+1,m+3,by omega,by go_num,by go_num,by omega,by omega,⟨HX.I.2.1,HA.I.2⟩⟩
   case measure=>simp [intOf]; omega
  ·have i1: ¬ (j:Int) < (l.length:Int):=by omega
   have HE:Hid (m=k+(aF (fun _:bD=>3) l:Nat)):=by have h6:=HA.I.1; rw [KF (by omega)] at h6; exact h6
   go_wp2;go_ret;exact ⟨ck HE.I,HA.I.2⟩
def eM (k:Int) (_:aB):aB:=⟨k,(k+1) % 3 == 0⟩
theorem zw (a:Option Addr) (l:List aB) (cap:Nat) (k:Int) (w:World) (base:Nat) (hl:l.length≤1048576) (h0:1≤k) (h1:k+(aF (fun _=>2) l:Nat)≤90000000) (ho:w.ownsRow base 187 2 (.slice a l.length cap) l.length (bJ.flat l)):
  Calls J3 59 #[.slice a l.length cap,.int .i64 k] w fun e w'=>e= .returned (.int .i64 (k+(aF (fun _=>2) l:Nat)))∧w'.ownsRow base 187 2 (.slice a l.length cap) l.length (bJ.flat (aJ eM (fun _=>2) k l))∧aI w w' (blk a):=by
 by_cases hz:l.length=0
 ·have hl0:l= [] :=adU hz
  subst hl0;have HO:Hid (w.ownsRow base 187 2 (.slice a 0 cap) 0 (bJ.flat [])):=ho;clear ho
  go_enter Tryz.func59,Tryz.ntmps59
  go_wp2_with fail
  go_loopw [1,5] (fun q i wr=>q= .int .i64 k∧i= .int .i64 0∧wr=w) (fun _ _ _=>0)
  case atStart=>exact ⟨rfl,rfl,rfl⟩
  case round=>
   obtain ⟨rfl,rfl,rfl⟩:=hrel;go_wp2;go_ret;exact ⟨ck (by simp [aF]),HO.I,aI.refl _ _⟩
 obtain ⟨g,rfl,hrow⟩:=bl.fX (K:=bJ) ho hz;have HR:Hid (bl bJ 187 w base g cap l):=hrow;have HB:Hid (k+(aF (fun _:aB=>2) l:Nat)≤90000000):=h1;clear ho hrow h1 hz
 go_enter Tryz.func59,Tryz.ntmps59
 go_wp2_with fail
 go_loopw [1,5] (fun q i wr=> ∃ (j:Nat) (m:Int),j≤l.length∧i= .int .i64 j∧q= .int .i64 m∧1≤m∧m≤90000000∧Hid (m=k+(aF (fun _:aB=>2) (l.take j):Nat)∧bl bJ 187 wr base g cap (aJ eM (fun _=>2) k (l.take j) ++ l.drop j)∧aI w wr [g])) (fun _ i _=>l.length - (intOf i).toNat)
 case atStart=>exact ⟨0,k,Ky _,rfl,rfl,h0,by have:=HB.I; omega,⟨by simp [aF],HR.I,aI.refl _ _⟩⟩
 case round=>
  clear HR;obtain ⟨j,m,hj,rfl,rfl,m0,m1,HA⟩:=hrel;by_cases hlt:j < l.length
  ·have i0:(0:Int)≤(j:Int):=by omega
   have i1:(j:Int) < (l.length:Int):=by omega
   obtain ⟨x,hx⟩: ∃ x,l[j]? =some x:=⟨_,Kz hlt⟩
   have pI:l.drop j=x :: l.drop (j+1):=mz hx;have qw:=du (c:=fun _:aB=>2) hx;have hup:=gK (c:=fun _:aB=>2) hx;have HX:Hid (l[j]? =some x∧m+2≤90000000∧m+2=k+(aF (fun _:aB=>2) (l.take (j+1)):Nat)):=⟨hx,by have:=HB.I; have:=HA.I.1; omega,by have:=HA.I.1; omega⟩
   have HW:Hid (bl bJ 187 wr base g cap (aJ eM (fun _=>2) k (l.take j) ++ x :: l.drop (j+1))∧(aJ eM (fun _=>2) k (l.take j)).length=j):=⟨by have:=HA.I.2.1; rwa [pI] at this,by rw [bE,Lk]; omega⟩
   clear hx pI qw hup;have m2:m+2≤90000000:=HX.I.2.1;have hgl:g < wr.heap.size:=HW.I.1.lt;have q0:=bl.eO HW.I.1 HW.I.2 (r:=0) (by decide:0 < bJ.n);obtain ⟨⟨u0,c0⟩,f0⟩:(∃ u,wr.cell? ⟨g,j * 2,none⟩=some u)∧wr.frozen? ⟨g,j * 2,none⟩=false:=q0;have q1:=bl.eO HW.I.1 HW.I.2 (r:=1) (by decide:1 < bJ.n);obtain ⟨⟨u1,c1⟩,f1⟩:(∃ u,wr.cell? ⟨g,j * 2+1,none⟩=some u)∧wr.frozen? ⟨g,j * 2+1,none⟩=false:=q1;have h5:=bl.part (K:=bJ) (x:=(⟨x.id,x.up⟩:aB)) (y:=(⟨m,(m+1) % 3 == 0⟩:aB)) (j:=0) (vs:= [.int .i64 (m),.bool ((m+1) % 3 == 0)]) HW.I.1 (by show 0+2≤2; omega) (fun r hr=>by match r,hr with | 0,_=>rfl | 1,_=>rfl) (fun r hr hn=>by match r,hr,hn with | 0,_,hn=>exact absurd ⟨by omega,by show 0 < 0+2; omega⟩ hn | 1,_,hn=>exact absurd ⟨by omega,by show 1 < 0+2; omega⟩ hn );rw [HW.I.2,show bJ.n=2 from rfl] at h5;simp only [bn,PT] at h5;have ES:Hid (bl bJ 187 ((wr.setCell ⟨g,j * 2,none⟩ (.int .i64 (m))).setCell ⟨g,j * 2+1,none⟩ (.bool ((m+1) % 3 == 0))) base g cap (aJ eM (fun _=>2) k (l.take j) ++ (⟨m,(m+1) % 3 == 0⟩:aB) :: l.drop (j+1))∧(aJ eM (fun _=>2) k (l.take j)).length=j):=⟨h5,HW.I.2⟩
   have h6:aI w (bn wr g (j * 2) [.int .i64 (m),.bool ((m+1) % 3 == 0)]) [g] :=HA.I.2.2.trans (aI.set _ (by simp));simp only [bn] at h6;have zy:Hid (aI w ((wr.setCell ⟨g,j * 2,none⟩ (.int .i64 (m))).setCell ⟨g,j * 2+1,none⟩ (.bool ((m+1) % 3 == 0))) [g]):=h6;clear h6;clear h5;have HN:Hid (bl bJ 187 ((wr.setCell ⟨g,j * 2,none⟩ (.int .i64 (m))).setCell ⟨g,j * 2+1,none⟩ (.bool ((m+1) % 3 == 0))) base g cap (aJ eM (fun _=>2) k (l.take (j+1)) ++ l.drop (j+1))∧aI w ((wr.setCell ⟨g,j * 2,none⟩ (.int .i64 (m))).setCell ⟨g,j * 2+1,none⟩ (.bool ((m+1) % 3 == 0))) [g]):=⟨by rw [kE HX.I.1,Lm,← HA.I.1]; exact ES.I.1,zy.I⟩
   go_wp2;go_roundw
   case rel=>exact ⟨j+1,m+2,by omega,by go_num,by go_num,by omega,by omega,⟨HX.I.2.2,HN.I.1,HN.I.2⟩⟩
   case measure=>simp [intOf]; omega
  ·have i1: ¬ (j:Int) < (l.length:Int):=by omega
   have ej:j=l.length:=by omega
   subst ej;have HE:Hid (bl bJ 187 wr base g cap (aJ eM (fun _=>2) k l)∧m=k+(aF (fun _:aB=>2) l:Nat)):=by have h5:=HA.I.2.1; have h6:=HA.I.1; rw [LQ,adW,QO] at h5; rw [LQ] at h6; exact ⟨h5,h6⟩
   go_wp2;go_ret;refine ⟨ck HE.I.2,?_,HA.I.2.2.mono (by simp [blk])⟩;have h7:=HE.I.1.owns;rw [bE] at h7;exact h7
theorem yb (a:Option Addr) (l:List aB) (cap:Nat) (k:Int) (w:World) (hl:l.length≤1048576) (h0:1≤k) (h1:k+(aF (fun _=>2) l:Nat)≤90000000) (hr:bJ.bU w a (aJ eM (fun _=>2) k l)):
  Calls J3 65 #[.slice a l.length cap,.int .i64 k] w fun e w'=>e= .returned (.int .i64 (k+(aF (fun _=>2) l:Nat)))∧Below w.heap.size w w':=by
 have HR:Hid (bJ.bU w a (aJ eM (fun _=>2) k l)∧k+(aF (fun _:aB=>2) l:Nat)≤90000000):=⟨hr,h1⟩
 clear hr h1
 go_enter Tryz.func65,Tryz.ntmps65
 go_wp2_with fail
 go_loopw [1,5] (fun q i wr=> ∃ (j:Nat) (m:Int),j≤l.length∧i= .int .i64 j∧q= .int .i64 m∧1≤m∧m≤90000000∧Hid (m=k+(aF (fun _:aB=>2) (l.take j):Nat)∧Below w.heap.size w wr)) (fun _ i _=>l.length - (intOf i).toNat)
 case atStart=>exact ⟨0,k,Ky _,rfl,rfl,h0,by have:=HR.I.2; omega,⟨by simp [aF],Kp _ _⟩⟩
 case round=>
  obtain ⟨j,m,hj,rfl,rfl,m0,m1,HA⟩:=hrel;by_cases hlt:j < l.length
  ·have i0:(0:Int)≤(j:Int):=by omega
   have i1:(j:Int) < (l.length:Int):=by omega
   obtain ⟨x,hx⟩: ∃ x,l[j]? =some x:=⟨_,Kz hlt⟩
   have qw:=du (c:=fun _:aB=>2) hx;have hup:=gK (c:=fun _:aB=>2) hx;have hg:=jK (f:=eM) (c:=fun _:aB=>2) (k:=k) hx;rw [← HA.I.1] at hg;obtain ⟨g,ha,hat⟩:=(HR.I.1.below HA.I.2).at hg;have c0:wr.cell? ⟨g,j * 2,none⟩=some (.int .i64 (m)):=hat 0 _ rfl;have c1:wr.cell? ⟨g,j * 2+1,none⟩=some (.bool ((m+1) % 3 == 0)):=hat 1 _ rfl;have HX:Hid (m+2≤90000000∧m+2=k+(aF (fun _:aB=>2) (l.take (j+1)):Nat)∧a=some ⟨g,0,none⟩∧(aJ eM (fun _=>2) k l)[j]? =some (eM m x)):=⟨by have:=HR.I.2; have:=HA.I.1; omega,by have:=HA.I.1; omega,ha,hg⟩
   have m2:m+2≤90000000:=HX.I.1;subst ha;clear hx qw hup hg hat;go_wp2;go_roundw
   case rel=>exact ⟨j+1,m+2,by omega,by go_num,by go_num,by omega,by omega,⟨HX.I.2.1,HA.I.2⟩⟩
   case measure=>simp [intOf]; omega
  ·have i1: ¬ (j:Int) < (l.length:Int):=by omega
   have HE:Hid (m=k+(aF (fun _:aB=>2) l:Nat)):=by have h6:=HA.I.1; rw [KF (by omega)] at h6; exact h6
   go_wp2;go_ret;exact ⟨ck HE.I,HA.I.2⟩
def dZ (k:Int) (_:az):az:=⟨k,(k+1) % 3 == 0,cu (k+1+1)⟩
theorem zB (a:Option Addr) (l:List az) (cap:Nat) (k:Int) (w:World) (base:Nat) (hl:l.length≤1048576) (h0:1≤k) (h1:k+(aF (fun _=>3) l:Nat)≤90000000) (ho:w.ownsRow base 190 3 (.slice a l.length cap) l.length (bG.flat l)):
  Calls J3 60 #[.slice a l.length cap,.int .i64 k] w fun e w'=>e= .returned (.int .i64 (k+(aF (fun _=>3) l:Nat)))∧w'.ownsRow base 190 3 (.slice a l.length cap) l.length (bG.flat (aJ dZ (fun _=>3) k l))∧aI w w' (blk a):=by
 by_cases hz:l.length=0
 ·have hl0:l= [] :=adU hz
  subst hl0;have HO:Hid (w.ownsRow base 190 3 (.slice a 0 cap) 0 (bG.flat [])):=ho;clear ho
  go_enter Tryz.func60,Tryz.ntmps60
  go_wp2_with fail
  go_loopw [1,5] (fun q i wr=>q= .int .i64 k∧i= .int .i64 0∧wr=w) (fun _ _ _=>0)
  case atStart=>exact ⟨rfl,rfl,rfl⟩
  case round=>
   obtain ⟨rfl,rfl,rfl⟩:=hrel;go_wp2;go_ret;exact ⟨ck (by simp [aF]),HO.I,aI.refl _ _⟩
 obtain ⟨g,rfl,hrow⟩:=bl.fX (K:=bG) ho hz;have HR:Hid (bl bG 190 w base g cap l):=hrow;have HB:Hid (k+(aF (fun _:az=>3) l:Nat)≤90000000):=h1;clear ho hrow h1 hz
 go_enter Tryz.func60,Tryz.ntmps60
 go_wp2_with fail
 go_loopw [1,5] (fun q i wr=> ∃ (j:Nat) (m:Int),j≤l.length∧i= .int .i64 j∧q= .int .i64 m∧1≤m∧m≤90000000∧Hid (m=k+(aF (fun _:az=>3) (l.take j):Nat)∧bl bG 190 wr base g cap (aJ dZ (fun _=>3) k (l.take j) ++ l.drop j)∧aI w wr [g])) (fun _ i _=>l.length - (intOf i).toNat)
 case atStart=>exact ⟨0,k,Ky _,rfl,rfl,h0,by have:=HB.I; omega,⟨by simp [aF],HR.I,aI.refl _ _⟩⟩
 case round=>
  clear HR;obtain ⟨j,m,hj,rfl,rfl,m0,m1,HA⟩:=hrel;by_cases hlt:j < l.length
  ·have i0:(0:Int)≤(j:Int):=by omega
   have i1:(j:Int) < (l.length:Int):=by omega
   obtain ⟨x,hx⟩: ∃ x,l[j]? =some x:=⟨_,Kz hlt⟩
   have pI:l.drop j=x :: l.drop (j+1):=mz hx;have qw:=du (c:=fun _:az=>3) hx;have hup:=gK (c:=fun _:az=>3) hx;have HX:Hid (l[j]? =some x∧m+3≤90000000∧m+3=k+(aF (fun _:az=>3) (l.take (j+1)):Nat)):=⟨hx,by have:=HB.I; have:=HA.I.1; omega,by have:=HA.I.1; omega⟩
   have HW:Hid (bl bG 190 wr base g cap (aJ dZ (fun _=>3) k (l.take j) ++ x :: l.drop (j+1))∧(aJ dZ (fun _=>3) k (l.take j)).length=j):=⟨by have:=HA.I.2.1; rwa [pI] at this,by rw [bE,Lk]; omega⟩
   clear hx pI qw hup;have m2:m+3≤90000000:=HX.I.2.1;have hgl:g < wr.heap.size:=HW.I.1.lt;have q0:=bl.eO HW.I.1 HW.I.2 (r:=0) (by decide:0 < bG.n);obtain ⟨⟨u0,c0⟩,f0⟩:(∃ u,wr.cell? ⟨g,j * 3,none⟩=some u)∧wr.frozen? ⟨g,j * 3,none⟩=false:=q0;have q1:=bl.eO HW.I.1 HW.I.2 (r:=1) (by decide:1 < bG.n);obtain ⟨⟨u1,c1⟩,f1⟩:(∃ u,wr.cell? ⟨g,j * 3+1,none⟩=some u)∧wr.frozen? ⟨g,j * 3+1,none⟩=false:=q1;have h5:=bl.part (K:=bG) (x:=(⟨x.id,x.shown,x.text⟩:az)) (y:=(⟨m,(m+1) % 3 == 0,x.text⟩:az)) (j:=0) (vs:= [.int .i64 (m),.bool ((m+1) % 3 == 0)]) HW.I.1 (by show 0+2≤3; omega) (fun r hr=>by match r,hr with | 0,_=>rfl | 1,_=>rfl) (fun r hr hn=>by match r,hr,hn with | 0,_,hn=>exact absurd ⟨by omega,by show 0 < 0+2; omega⟩ hn | 1,_,hn=>exact absurd ⟨by omega,by show 1 < 0+2; omega⟩ hn | 2,_,_=>rfl );rw [HW.I.2,show bG.n=3 from rfl] at h5;simp only [bn,PT] at h5;have ES:Hid (bl bG 190 ((wr.setCell ⟨g,j * 3,none⟩ (.int .i64 (m))).setCell ⟨g,j * 3+1,none⟩ (.bool ((m+1) % 3 == 0))) base g cap (aJ dZ (fun _=>3) k (l.take j) ++ (⟨m,(m+1) % 3 == 0,x.text⟩:az) :: l.drop (j+1))∧(aJ dZ (fun _=>3) k (l.take j)).length=j):=⟨h5,HW.I.2⟩
   have h6:aI w (bn wr g (j * 3) [.int .i64 (m),.bool ((m+1) % 3 == 0)]) [g] :=HA.I.2.2.trans (aI.set _ (by simp));simp only [bn] at h6;have zy:Hid (aI w ((wr.setCell ⟨g,j * 3,none⟩ (.int .i64 (m))).setCell ⟨g,j * 3+1,none⟩ (.bool ((m+1) % 3 == 0))) [g]):=h6;clear h6;clear h5;go_wp2_with fail;refine (fh (m+1+1) (by omega) (by omega) _).mono ?_;rintro e v2 ⟨rfl,hb2⟩;have FD:Hid (bl bG 190 v2 base g cap (aJ dZ (fun _=>3) k (l.take j) ++ (⟨m,(m+1) % 3 == 0,x.text⟩:az) :: l.drop (j+1))∧(aJ dZ (fun _=>3) k (l.take j)).length=j):=⟨ES.I.1.same (hb2.block g ES.I.1.lt),ES.I.2⟩
   have HV2K:Hid (aI w v2 [g]):=zy.I.trans (aI.dI hb2);clear hb2;have q2:=bl.eO FD.I.1 FD.I.2 (r:=2) (by decide:2 < bG.n);obtain ⟨⟨u2,c2⟩,f2⟩:(∃ u,v2.cell? ⟨g,j * 3+2,none⟩=some u)∧v2.frozen? ⟨g,j * 3+2,none⟩=false:=q2;have h5:=bl.part (K:=bG) (x:=(⟨m,(m+1) % 3 == 0,x.text⟩:az)) (y:=(⟨m,(m+1) % 3 == 0,cu (m+1+1)⟩:az)) (j:=2) (vs:= [.string (cu (m+1+1))]) FD.I.1 (by show 2+1≤3; omega) (fun r hr=>by match r,hr with | 0,_=>rfl) (fun r hr hn=>by match r,hr,hn with | 0,_,_=>rfl | 1,_,_=>rfl | 2,_,hn=>exact absurd ⟨by omega,by show 2 < 2+1; omega⟩ hn );rw [FD.I.2,show bG.n=3 from rfl] at h5;simp only [bn] at h5;have mH:Hid (bl bG 190 (v2.setCell ⟨g,j * 3+2,none⟩ (.string (cu (m+1+1)))) base g cap (aJ dZ (fun _=>3) k (l.take j) ++ (⟨m,(m+1) % 3 == 0,cu (m+1+1)⟩:az) :: l.drop (j+1))∧(aJ dZ (fun _=>3) k (l.take j)).length=j):=⟨h5,FD.I.2⟩
   have h6:aI w (bn v2 g (j * 3+2) [.string (cu (m+1+1))]) [g] :=HV2K.I.trans (aI.set _ (by simp));simp only [bn] at h6;have HS1K:Hid (aI w (v2.setCell ⟨g,j * 3+2,none⟩ (.string (cu (m+1+1)))) [g]):=h6;clear h6;clear h5;have HN:Hid (bl bG 190 (v2.setCell ⟨g,j * 3+2,none⟩ (.string (cu (m+1+1)))) base g cap (aJ dZ (fun _=>3) k (l.take (j+1)) ++ l.drop (j+1))∧aI w (v2.setCell ⟨g,j * 3+2,none⟩ (.string (cu (m+1+1)))) [g]):=⟨by rw [kE HX.I.1,Lm,← HA.I.1]; exact mH.I.1,HS1K.I⟩
   go_wp2;go_roundw
   case rel=>exact ⟨j+1,m+3,by omega,by go_num,by go_num,by omega,by omega,⟨HX.I.2.2,HN.I.1,HN.I.2⟩⟩
   case measure=>simp [intOf]; omega
  ·have i1: ¬ (j:Int) < (l.length:Int):=by omega
   have ej:j=l.length:=by omega
   subst ej;have HE:Hid (bl bG 190 wr base g cap (aJ dZ (fun _=>3) k l)∧m=k+(aF (fun _:az=>3) l:Nat)):=by have h5:=HA.I.2.1; have h6:=HA.I.1; rw [LQ,adW,QO] at h5; rw [LQ] at h6; exact ⟨h5,h6⟩
   go_wp2;go_ret;refine ⟨ck HE.I.2,?_,HA.I.2.2.mono (by simp [blk])⟩;have h7:=HE.I.1.owns;rw [bE] at h7;exact h7
def vw (w:World) (a:Option Addr) (l:List az) (g j:Nat) (m:Int) (w':World):Prop:=w'.cell? ⟨g,j * 3+2,none⟩=some (.string (cu m))∧Hid (bG.bU w' a l∧Below w.heap.size w w')
theorem yF (a:Option Addr) (l:List az) (cap:Nat) (k:Int) (w:World) (hl:l.length≤1048576) (h0:1≤k) (h1:k+(aF (fun _=>3) l:Nat)≤90000000) (hr:bG.bU w a (aJ dZ (fun _=>3) k l)):
  Calls J3 66 #[.slice a l.length cap,.int .i64 k] w fun e w'=>e= .returned (.int .i64 (k+(aF (fun _=>3) l:Nat)))∧Below w.heap.size w w':=by
 have HR:Hid (bG.bU w a (aJ dZ (fun _=>3) k l)∧k+(aF (fun _:az=>3) l:Nat)≤90000000):=⟨hr,h1⟩
 clear hr h1
 go_enter Tryz.func66,Tryz.ntmps66
 go_wp2_with fail
 go_loopw [1,5] (fun q i wr=> ∃ (j:Nat) (m:Int),j≤l.length∧i= .int .i64 j∧q= .int .i64 m∧1≤m∧m≤90000000∧Hid (m=k+(aF (fun _:az=>3) (l.take j):Nat)∧Below w.heap.size w wr)) (fun _ i _=>l.length - (intOf i).toNat)
 case atStart=>exact ⟨0,k,Ky _,rfl,rfl,h0,by have:=HR.I.2; omega,⟨by simp [aF],Kp _ _⟩⟩
 case round=>
  obtain ⟨j,m,hj,rfl,rfl,m0,m1,HA⟩:=hrel;by_cases hlt:j < l.length
  ·have i0:(0:Int)≤(j:Int):=by omega
   have i1:(j:Int) < (l.length:Int):=by omega
   obtain ⟨x,hx⟩: ∃ x,l[j]? =some x:=⟨_,Kz hlt⟩
   have qw:=du (c:=fun _:az=>3) hx;have hup:=gK (c:=fun _:az=>3) hx;have hg:=jK (f:=dZ) (c:=fun _:az=>3) (k:=k) hx;rw [← HA.I.1] at hg;obtain ⟨g,ha,hat⟩:=(HR.I.1.below HA.I.2).at hg;have c0:wr.cell? ⟨g,j * 3,none⟩=some (.int .i64 (m)):=hat 0 _ rfl;have c1:wr.cell? ⟨g,j * 3+1,none⟩=some (.bool ((m+1) % 3 == 0)):=hat 1 _ rfl;have c2:wr.cell? ⟨g,j * 3+2,none⟩=some (.string (cu (m+1+1))):=hat 2 _ rfl;have HX:Hid (m+3≤90000000∧m+3=k+(aF (fun _:az=>3) (l.take (j+1)):Nat)∧a=some ⟨g,0,none⟩∧(aJ dZ (fun _=>3) k l)[j]? =some (dZ m x)):=⟨by have:=HR.I.2; have:=HA.I.1; omega,by have:=HA.I.1; omega,ha,hg⟩
   have m2:m+3≤90000000:=HX.I.1;subst ha;clear hx qw hup hg hat;go_wp2_with fail;have HT:Hid (vw w (some ⟨g,0,none⟩) (aJ dZ (fun _=>3) k l) g j (m+1+1) wr.drew):=⟨c2,(HR.I.1.below HA.I.2).below (Kp _ _).drew,HA.I.2.drew⟩
   clear c0 c1 c2;refine aT (vw w (some ⟨g,0,none⟩) (aJ dZ (fun _=>3) k l) g j (m+1+1)) (by kernel_rfl) HT.I ?_
   iterate 6 (refine PI ?_ (hy:=fun w0 hS0=>by obtain ⟨q0,hH⟩:=hS0; go_simp; try with_reducible rfl))
   refine cl (.string (cu (m+1+1))) 118 #[.int .i64 (m+1+1)] ?_ ?_ ?_
   ·intro w0 hS0
    obtain ⟨q0,hH⟩:=hS0
    go_simp
    try with_reducible rfl
   ·intro w0 hS0
    refine (fh (m+1+1) (by omega) (by omega) w0).mono ?_;rintro e w2 ⟨rfl,hb2⟩;exact ⟨rfl,(J1 (hb2.block g (Le hS0.1))).trans hS0.1,hS0.2.I.1.below hb2,hS0.2.I.2.trans (hb2.mono hS0.2.I.2.size)⟩
   simp only [pt,sb,s0,s1]
   (refine PI ?_ (hy:=fun w0 hS0=>by obtain ⟨q0,hH⟩:=hS0; go_simp; try with_reducible rfl))
   refine bk (by kernel_rfl) ?_ _;intro w1 cm;have HZ:Hid (Below w.heap.size w w1):=cm.2.I.2;clear cm HT;go_wp2;go_roundw
   case rel=>exact ⟨j+1,m+3,by omega,by go_num,by go_num,by omega,by omega,⟨HX.I.2.1,HZ.I⟩⟩
   case measure=>simp [intOf]; omega
  ·have i1: ¬ (j:Int) < (l.length:Int):=by omega
   have HE:Hid (m=k+(aF (fun _:az=>3) l:Nat)):=by have h6:=HA.I.1; rw [KF (by omega)] at h6; exact h6
   go_wp2;go_ret;exact ⟨ck HE.I,HA.I.2⟩
def mkStr (k:Int) (_:ByteArray):ByteArray:=cu (k)
theorem uu (a:Option Addr) (l:List ByteArray) (cap:Nat) (k:Int) (w:World) (base:Nat) (hl:l.length≤1048576) (h0:1≤k) (h1:k+(aF (fun _=>1) l:Nat)≤90000000) (ho:w.ownsRow base 9 1 (.slice a l.length cap) l.length (bT.flat l)):
  Calls J3 119 #[.slice a l.length cap,.int .i64 k] w fun e w'=>e= .returned (.int .i64 (k+(aF (fun _=>1) l:Nat)))∧w'.ownsRow base 9 1 (.slice a l.length cap) l.length (bT.flat (aJ mkStr (fun _=>1) k l))∧aI w w' (blk a):=by
 by_cases hz:l.length=0
 ·have hl0:l= [] :=adU hz
  subst hl0;have HO:Hid (w.ownsRow base 9 1 (.slice a 0 cap) 0 (bT.flat [])):=ho;clear ho
  go_enter Tryz.func119,Tryz.ntmps119
  go_wp2_with fail
  go_loopw [1,5] (fun q i wr=>q= .int .i64 k∧i= .int .i64 0∧wr=w) (fun _ _ _=>0)
  case atStart=>exact ⟨rfl,rfl,rfl⟩
  case round=>
   obtain ⟨rfl,rfl,rfl⟩:=hrel;go_wp2;go_ret;exact ⟨ck (by simp [aF]),HO.I,aI.refl _ _⟩
 obtain ⟨g,rfl,hrow⟩:=bl.fX (K:=bT) ho hz;have HR:Hid (bl bT 9 w base g cap l):=hrow;have HB:Hid (k+(aF (fun _:ByteArray=>1) l:Nat)≤90000000):=h1;clear ho hrow h1 hz
 go_enter Tryz.func119,Tryz.ntmps119
 go_wp2_with fail
 go_loopw [1,5] (fun q i wr=> ∃ (j:Nat) (m:Int),j≤l.length∧i= .int .i64 j∧q= .int .i64 m∧1≤m∧m≤90000000∧Hid (m=k+(aF (fun _:ByteArray=>1) (l.take j):Nat)∧bl bT 9 wr base g cap (aJ mkStr (fun _=>1) k (l.take j) ++ l.drop j)∧aI w wr [g])) (fun _ i _=>l.length - (intOf i).toNat)
 case atStart=>exact ⟨0,k,Ky _,rfl,rfl,h0,by have:=HB.I; omega,⟨by simp [aF],HR.I,aI.refl _ _⟩⟩
 case round=>
  clear HR;obtain ⟨j,m,hj,rfl,rfl,m0,m1,HA⟩:=hrel;by_cases hlt:j < l.length
  ·have i0:(0:Int)≤(j:Int):=by omega
   have i1:(j:Int) < (l.length:Int):=by omega
   obtain ⟨x,hx⟩: ∃ x,l[j]? =some x:=⟨_,Kz hlt⟩
   have pI:l.drop j=x :: l.drop (j+1):=mz hx;have qw:=du (c:=fun _:ByteArray=>1) hx;have hup:=gK (c:=fun _:ByteArray=>1) hx;have HX:Hid (l[j]? =some x∧m+1≤90000000∧m+1=k+(aF (fun _:ByteArray=>1) (l.take (j+1)):Nat)):=⟨hx,by have:=HB.I; have:=HA.I.1; omega,by have:=HA.I.1; omega⟩
   have HW:Hid (bl bT 9 wr base g cap (aJ mkStr (fun _=>1) k (l.take j) ++ x :: l.drop (j+1))∧(aJ mkStr (fun _=>1) k (l.take j)).length=j):=⟨by have:=HA.I.2.1; rwa [pI] at this,by rw [bE,Lk]; omega⟩
   clear hx pI qw hup;have m2:m+1≤90000000:=HX.I.2.1;have hgl:g < wr.heap.size:=HW.I.1.lt;go_wp2_with fail;refine (fh (m) (by omega) (by omega) _).mono ?_;rintro e v0 ⟨rfl,hb0⟩;have HV0:Hid (bl bT 9 v0 base g cap (aJ mkStr (fun _=>1) k (l.take j) ++ (x) :: l.drop (j+1))∧(aJ mkStr (fun _=>1) k (l.take j)).length=j):=⟨HW.I.1.same (hb0.block g HW.I.1.lt),HW.I.2⟩
   have HV0K:Hid (aI w v0 [g]):=HA.I.2.2.trans (aI.dI hb0);clear hb0;have q0:=bl.eO HV0.I.1 HV0.I.2 (r:=0) (by decide:0 < bT.n);obtain ⟨⟨u0,c0⟩,f0⟩:(∃ u,v0.cell? ⟨g,j,none⟩=some u)∧v0.frozen? ⟨g,j,none⟩=false:=by have h5:=q0; rw [show j * bT.n+0=j by show j * 1+0=j; omega] at h5; exact h5
   have h5:=bl.part (K:=bT) (x:=x) (y:=(cu (m))) (j:=0) (vs:= [.string (cu (m))]) HV0.I.1 (by show 0+1≤1; omega) (fun r hr=>by match r,hr with | 0,_=>rfl) (fun r hr hn=>by match r,hr,hn with | 0,_,hn=>exact absurd ⟨by omega,by show 0 < 0+1; omega⟩ hn );rw [HV0.I.2,show bT.n=1 from rfl] at h5;simp only [bn,Nat.mul_one,PT] at h5;have ES:Hid (bl bT 9 (v0.setCell ⟨g,j,none⟩ (.string (cu (m)))) base g cap (aJ mkStr (fun _=>1) k (l.take j) ++ (cu (m)) :: l.drop (j+1))∧(aJ mkStr (fun _=>1) k (l.take j)).length=j):=⟨h5,HV0.I.2⟩
   have h6:aI w (bn v0 g (j) [.string (cu (m))]) [g] :=HV0K.I.trans (aI.set _ (by simp));simp only [bn] at h6;have zy:Hid (aI w (v0.setCell ⟨g,j,none⟩ (.string (cu (m)))) [g]):=h6;clear h6;clear h5;have HN:Hid (bl bT 9 (v0.setCell ⟨g,j,none⟩ (.string (cu (m)))) base g cap (aJ mkStr (fun _=>1) k (l.take (j+1)) ++ l.drop (j+1))∧aI w (v0.setCell ⟨g,j,none⟩ (.string (cu (m)))) [g]):=⟨by rw [kE HX.I.1,Lm,← HA.I.1]; exact ES.I.1,zy.I⟩
   go_wp2;go_roundw
   case rel=>exact ⟨j+1,m+1,by omega,by go_num,by go_num,by omega,by omega,⟨HX.I.2.2,HN.I.1,HN.I.2⟩⟩
   case measure=>simp [intOf]; omega
  ·have i1: ¬ (j:Int) < (l.length:Int):=by omega
   have ej:j=l.length:=by omega
   subst ej;have HE:Hid (bl bT 9 wr base g cap (aJ mkStr (fun _=>1) k l)∧m=k+(aF (fun _:ByteArray=>1) l:Nat)):=by have h5:=HA.I.2.1; have h6:=HA.I.1; rw [LQ,adW,QO] at h5; rw [LQ] at h6; exact ⟨h5,h6⟩
   go_wp2;go_ret;refine ⟨ck HE.I.2,?_,HA.I.2.2.mono (by simp [blk])⟩;have h7:=HE.I.1.owns;rw [bE] at h7;exact h7
def B7 (w:World) (a:Option Addr) (l:List ByteArray) (g j:Nat) (m:Int) (w':World):Prop:=w'.cell? ⟨g,j,none⟩=some (.string (cu m))∧Hid (bT.bU w' a l∧Below w.heap.size w w')
theorem uo (a:Option Addr) (l:List ByteArray) (cap:Nat) (k:Int) (w:World) (hl:l.length≤1048576) (h0:1≤k) (h1:k+(aF (fun _=>1) l:Nat)≤90000000) (hr:bT.bU w a (aJ mkStr (fun _=>1) k l)):
  Calls J3 121 #[.slice a l.length cap,.int .i64 k] w fun e w'=>e= .returned (.int .i64 (k+(aF (fun _=>1) l:Nat)))∧Below w.heap.size w w':=by
 have HR:Hid (bT.bU w a (aJ mkStr (fun _=>1) k l)∧k+(aF (fun _:ByteArray=>1) l:Nat)≤90000000):=⟨hr,h1⟩
 clear hr h1
 go_enter Tryz.func121,Tryz.ntmps121
 go_wp2_with fail
 go_loopw [1,5] (fun q i wr=> ∃ (j:Nat) (m:Int),j≤l.length∧i= .int .i64 j∧q= .int .i64 m∧1≤m∧m≤90000000∧Hid (m=k+(aF (fun _:ByteArray=>1) (l.take j):Nat)∧Below w.heap.size w wr)) (fun _ i _=>l.length - (intOf i).toNat)
 case atStart=>exact ⟨0,k,Ky _,rfl,rfl,h0,by have:=HR.I.2; omega,⟨by simp [aF],Kp _ _⟩⟩
 case round=>
  obtain ⟨j,m,hj,rfl,rfl,m0,m1,HA⟩:=hrel;by_cases hlt:j < l.length
  ·have i0:(0:Int)≤(j:Int):=by omega
   have i1:(j:Int) < (l.length:Int):=by omega
   obtain ⟨x,hx⟩: ∃ x,l[j]? =some x:=⟨_,Kz hlt⟩
   have qw:=du (c:=fun _:ByteArray=>1) hx;have hup:=gK (c:=fun _:ByteArray=>1) hx;have hg:=jK (f:=mkStr) (c:=fun _:ByteArray=>1) (k:=k) hx;rw [← HA.I.1] at hg;obtain ⟨g,ha,hat⟩:=(HR.I.1.below HA.I.2).at hg;have c0:wr.cell? ⟨g,j,none⟩=some (.string (cu (m))):=by have h5:=hat 0 _ rfl; rw [show j * bT.n+0=j by show j * 1+0=j; omega] at h5; exact h5
   have HX:Hid (m+1≤90000000∧m+1=k+(aF (fun _:ByteArray=>1) (l.take (j+1)):Nat)∧a=some ⟨g,0,none⟩∧(aJ mkStr (fun _=>1) k l)[j]? =some (mkStr m x)):=⟨by have:=HR.I.2; have:=HA.I.1; omega,by have:=HA.I.1; omega,ha,hg⟩
   have m2:m+1≤90000000:=HX.I.1;subst ha;clear hx qw hup hg hat;go_wp2_with fail;have HT:Hid (B7 w (some ⟨g,0,none⟩) (aJ mkStr (fun _=>1) k l) g j (m) wr.drew):=⟨c0,(HR.I.1.below HA.I.2).below (Kp _ _).drew,HA.I.2.drew⟩
   clear c0;refine aT (B7 w (some ⟨g,0,none⟩) (aJ mkStr (fun _=>1) k l) g j (m)) (by kernel_rfl) HT.I ?_
   iterate 5 (refine PI ?_ (hy:=fun w0 hS0=>by obtain ⟨q0,hH⟩:=hS0; go_simp; try with_reducible rfl))
   refine cl (.string (cu (m))) 118 #[.int .i64 (m)] ?_ ?_ ?_
   ·intro w0 hS0
    obtain ⟨q0,hH⟩:=hS0
    go_simp
    try with_reducible rfl
   ·intro w0 hS0
    refine (fh (m) (by omega) (by omega) w0).mono ?_;rintro e w2 ⟨rfl,hb2⟩;exact ⟨rfl,(J1 (hb2.block g (Le hS0.1))).trans hS0.1,hS0.2.I.1.below hb2,hS0.2.I.2.trans (hb2.mono hS0.2.I.2.size)⟩
   simp only [pt,sb,s0,s1]
   (refine PI ?_ (hy:=fun w0 hS0=>by obtain ⟨q0,hH⟩:=hS0; go_simp; try with_reducible rfl))
   refine bk (by kernel_rfl) ?_ _;intro w1 cm;have HZ:Hid (Below w.heap.size w w1):=cm.2.I.2;clear cm HT;go_wp2;go_roundw
   case rel=>exact ⟨j+1,m+1,by omega,by go_num,by go_num,by omega,by omega,⟨HX.I.2.1,HZ.I⟩⟩
   case measure=>simp [intOf]; omega
  ·have i1: ¬ (j:Int) < (l.length:Int):=by omega
   have HE:Hid (m=k+(aF (fun _:ByteArray=>1) l:Nat)):=by have h6:=HA.I.1; rw [KF (by omega)] at h6; exact h6
   go_wp2;go_ret;exact ⟨ck HE.I,HA.I.2⟩
end
section
open Go.RowKit
theorem Ib {P:Program} {ops:Array Oper} {S:World→Prop} {o:Oper} {a:Act} (hw:Region.wanted o (yielded ops a.tmps)=true) (ty:TypeId) (x:Operand) (ho:o.op= .load ty x)
  (g:Nat) (hx:a.eval x= .pointer (some ⟨g,0,none⟩)) (t:TypeId) (cs:Array Value) (d:TypeDesc) (hS: ∀ w,S w→w.heap[g]? =some (.cells cs t (0,0)))
  (hu:P.underlying ty=some d) (hd:(match d with | .struct _ | .array _ _=>true | _=>false)=true) (hi:(P.info? ty).map (·.size)=some cs.size):YieldsIf P ops S o (.agg cs) a:=
 .inl ⟨hw,fun w hw'=>by
  unfold execOp;simp only [ho,hx,Instr.loadAt,Instr.sureAddr,Sem.run_bind,Sem.run_pure,Result.andThen_ok,run_loadVar_row w g t ty cs (0,0) d (hS w hw') hu hd hi]⟩
structure af.Ints (p:af):Prop where
 L8: ∀ x∈p.L8,x.Wf
 aj: ∀ x∈p.aj,(Lit.int .i64 x.id).wf=true
 L9: ∀ x∈p.L9,(Lit.int .i64 x.id).wf=true
 ag: ∀ x∈p.ag,(Lit.int .i64 x.id).wf=true
 ae: ∀ x∈p.ae,(Lit.int .i64 x.id).wf=true
 ai: ∀ x∈p.ai,(Lit.int .i64 x.id).wf=true
theorem UT {p:af} (h:p.yq) (hi:p.Ints):p.pure.Small:=by
 refine ⟨by simpa [af.pure] using h.dl,h.fx,h.cD,h.cC,by simpa [af.pure] using h.cb,by simpa [af.pure] using h.dH,fun x hx=> ?_,hi.aj,hi.L9,fun x hx=>⟨hi.ag x hx,h.ag x hx⟩,fun x hx=> ?_,fun x hx=> ?_⟩
 ·obtain ⟨y,hy,rfl⟩:=Lr.1 hx
  have h1:=h.L8 y hy;have h2:=hi.L8 y hy;exact ⟨⟨h1.prog,h1.ops,h1.held,h1.got⟩,h2.id,h2.on,h2.RU⟩
 ·obtain ⟨y,hy,rfl⟩:=Lr.1 hx
  exact ⟨hi.ae y hy,h.ae y hy⟩
 ·obtain ⟨y,hy,rfl⟩:=Lr.1 hx
  exact ⟨hi.ai y hy,h.ai y hy⟩
end
section
open Go.RowKit
attribute [local go_sem ↓] Kc Kd
def Wb (k:Int) (_:pA):pA:=⟨k,k+1,k+1+1⟩
theorem WE (a:Option Addr) (l:List pA) (cap:Nat) (k:Int) (w:World) (base:Nat) (hl:l.length≤1048576) (h0:1≤k) (h1:k+(aF (fun _=>3) l:Nat)≤90000000) (ho:w.ownsRow base 100 3 (.slice a l.length cap) l.length (jq.flat l)):
  Calls J3 116 #[.slice a l.length cap,.int .i64 k] w fun e w'=>e= .returned (.int .i64 (k+(aF (fun _=>3) l:Nat)))∧w'.ownsRow base 100 3 (.slice a l.length cap) l.length (jq.flat (aJ Wb (fun _=>3) k l))∧aI w w' (blk a):=by
 by_cases hz:l.length=0
 ·have hl0:l= [] :=adU hz
  subst hl0;have HO:Hid (w.ownsRow base 100 3 (.slice a 0 cap) 0 (jq.flat [])):=ho;clear ho
  go_enter Tryz.func116,Tryz.ntmps116
  go_wp2_with fail
  go_loopw [1,5] (fun q i wr=>q= .int .i64 k∧i= .int .i64 0∧wr=w) (fun _ _ _=>0)
  case atStart=>exact ⟨rfl,rfl,rfl⟩
  case round=>
   obtain ⟨rfl,rfl,rfl⟩:=hrel;go_wp2;go_ret;exact ⟨ck (by simp [aF]),HO.I,aI.refl _ _⟩
 obtain ⟨g,rfl,hrow⟩:=bl.fX (K:=jq) ho hz;have HR:Hid (bl jq 100 w base g cap l):=hrow;have HB:Hid (k+(aF (fun _:pA=>3) l:Nat)≤90000000):=h1;clear ho hrow h1 hz
 go_enter Tryz.func116,Tryz.ntmps116
 go_wp2_with fail
 go_loopw [1,5] (fun q i wr=> ∃ (j:Nat) (m:Int),j≤l.length∧i= .int .i64 j∧q= .int .i64 m∧1≤m∧m≤90000000∧Hid (m=k+(aF (fun _:pA=>3) (l.take j):Nat)∧bl jq 100 wr base g cap (aJ Wb (fun _=>3) k (l.take j) ++ l.drop j)∧aI w wr [g])) (fun _ i _=>l.length - (intOf i).toNat)
 case atStart=>exact ⟨0,k,Ky _,rfl,rfl,h0,by have:=HB.I; omega,⟨by simp [aF],HR.I,aI.refl _ _⟩⟩
 case round=>
  clear HR;obtain ⟨j,m,hj,rfl,rfl,m0,m1,HA⟩:=hrel;by_cases hlt:j < l.length
  ·have i0:(0:Int)≤(j:Int):=by omega
   have i1:(j:Int) < (l.length:Int):=by omega
   obtain ⟨x,hx⟩: ∃ x,l[j]? =some x:=⟨_,Kz hlt⟩
   have pI:l.drop j=x :: l.drop (j+1):=mz hx;have qw:=du (c:=fun _:pA=>3) hx;have hup:=gK (c:=fun _:pA=>3) hx;have HX:Hid (l[j]? =some x∧m+3≤90000000∧m+3=k+(aF (fun _:pA=>3) (l.take (j+1)):Nat)):=⟨hx,by have:=HB.I; have:=HA.I.1; omega,by have:=HA.I.1; omega⟩
   have HW:Hid (bl jq 100 wr base g cap (aJ Wb (fun _=>3) k (l.take j) ++ x :: l.drop (j+1))∧(aJ Wb (fun _=>3) k (l.take j)).length=j):=⟨by have:=HA.I.2.1; rwa [pI] at this,by rw [bE,Lk]; omega⟩
   clear hx pI qw hup;have m2:m+3≤90000000:=HX.I.2.1;have hgl:g < wr.heap.size:=HW.I.1.lt;have q0:=bl.eO HW.I.1 HW.I.2 (r:=0) (by decide:0 < jq.n);obtain ⟨⟨u0,c0⟩,f0⟩:(∃ u,wr.cell? ⟨g,j * 3,none⟩=some u)∧wr.frozen? ⟨g,j * 3,none⟩=false:=q0;have q1:=bl.eO HW.I.1 HW.I.2 (r:=1) (by decide:1 < jq.n);obtain ⟨⟨u1,c1⟩,f1⟩:(∃ u,wr.cell? ⟨g,j * 3+1,none⟩=some u)∧wr.frozen? ⟨g,j * 3+1,none⟩=false:=q1;have q2:=bl.eO HW.I.1 HW.I.2 (r:=2) (by decide:2 < jq.n);obtain ⟨⟨u2,c2⟩,f2⟩:(∃ u,wr.cell? ⟨g,j * 3+2,none⟩=some u)∧wr.frozen? ⟨g,j * 3+2,none⟩=false:=q2;have h5:=bl.part (K:=jq) (x:=(⟨x.at_,x.len,x.part⟩:pA)) (y:=(⟨m,m+1,m+1+1⟩:pA)) (j:=0) (vs:= [.int .i64 (m),.int .i64 (m+1),.int .i64 (m+1+1)]) HW.I.1 (by show 0+3≤3; omega) (fun r hr=>by match r,hr with | 0,_=>rfl | 1,_=>rfl | 2,_=>rfl) (fun r hr hn=>by match r,hr,hn with | 0,_,hn=>exact absurd ⟨by omega,by show 0 < 0+3; omega⟩ hn | 1,_,hn=>exact absurd ⟨by omega,by show 1 < 0+3; omega⟩ hn | 2,_,hn=>exact absurd ⟨by omega,by show 2 < 0+3; omega⟩ hn );rw [HW.I.2,show jq.n=3 from rfl] at h5;simp only [bn,adV,Nat.reduceAdd,PT] at h5;have ES:Hid (bl jq 100 (((wr.setCell ⟨g,j * 3,none⟩ (.int .i64 (m))).setCell ⟨g,j * 3+1,none⟩ (.int .i64 (m+1))).setCell ⟨g,j * 3+2,none⟩ (.int .i64 (m+1+1))) base g cap (aJ Wb (fun _=>3) k (l.take j) ++ (⟨m,m+1,m+1+1⟩:pA) :: l.drop (j+1))∧(aJ Wb (fun _=>3) k (l.take j)).length=j):=⟨h5,HW.I.2⟩
   have h6:aI w (bn wr g (j * 3) [.int .i64 (m),.int .i64 (m+1),.int .i64 (m+1+1)]) [g] :=HA.I.2.2.trans (aI.set _ (by simp));simp only [bn,adV,Nat.reduceAdd] at h6;have zy:Hid (aI w (((wr.setCell ⟨g,j * 3,none⟩ (.int .i64 (m))).setCell ⟨g,j * 3+1,none⟩ (.int .i64 (m+1))).setCell ⟨g,j * 3+2,none⟩ (.int .i64 (m+1+1))) [g]):=h6;clear h6;clear h5;have HN:Hid (bl jq 100 (((wr.setCell ⟨g,j * 3,none⟩ (.int .i64 (m))).setCell ⟨g,j * 3+1,none⟩ (.int .i64 (m+1))).setCell ⟨g,j * 3+2,none⟩ (.int .i64 (m+1+1))) base g cap (aJ Wb (fun _=>3) k (l.take (j+1)) ++ l.drop (j+1))∧aI w (((wr.setCell ⟨g,j * 3,none⟩ (.int .i64 (m))).setCell ⟨g,j * 3+1,none⟩ (.int .i64 (m+1))).setCell ⟨g,j * 3+2,none⟩ (.int .i64 (m+1+1))) [g]):=⟨by rw [kE HX.I.1,Lm,← HA.I.1]; exact ES.I.1,zy.I⟩
   go_wp2;go_roundw
   case rel=>exact ⟨j+1,m+3,by omega,by go_num,by go_num,by omega,by omega,⟨HX.I.2.2,HN.I.1,HN.I.2⟩⟩
   case measure=>simp [intOf]; omega
  ·have i1: ¬ (j:Int) < (l.length:Int):=by omega
   have ej:j=l.length:=by omega
   subst ej;have HE:Hid (bl jq 100 wr base g cap (aJ Wb (fun _=>3) k l)∧m=k+(aF (fun _:pA=>3) l:Nat)):=by have h5:=HA.I.2.1; have h6:=HA.I.1; rw [LQ,adW,QO] at h5; rw [LQ] at h6; exact ⟨h5,h6⟩
   go_wp2;go_ret;refine ⟨ck HE.I.2,?_,HA.I.2.2.mono (by simp [blk])⟩;have h7:=HE.I.1.owns;rw [bE] at h7;exact h7
theorem aay (a:Option Addr) (l:List pA) (cap:Nat) (k:Int) (w:World) (hl:l.length≤1048576) (h0:1≤k) (h1:k+(aF (fun _=>3) l:Nat)≤90000000) (hr:jq.bU w a (aJ Wb (fun _=>3) k l)):
  Calls J3 126 #[.slice a l.length cap,.int .i64 k] w fun e w'=>e= .returned (.int .i64 (k+(aF (fun _=>3) l:Nat)))∧Below w.heap.size w w':=by
 have HR:Hid (jq.bU w a (aJ Wb (fun _=>3) k l)∧k+(aF (fun _:pA=>3) l:Nat)≤90000000):=⟨hr,h1⟩
 clear hr h1
 go_enter Tryz.func126,Tryz.ntmps126
 go_wp2_with fail
 go_loopw [1,5] (fun q i wr=> ∃ (j:Nat) (m:Int),j≤l.length∧i= .int .i64 j∧q= .int .i64 m∧1≤m∧m≤90000000∧Hid (m=k+(aF (fun _:pA=>3) (l.take j):Nat)∧Below w.heap.size w wr)) (fun _ i _=>l.length - (intOf i).toNat)
 case atStart=>exact ⟨0,k,Ky _,rfl,rfl,h0,by have:=HR.I.2; omega,⟨by simp [aF],Kp _ _⟩⟩
 case round=>
  obtain ⟨j,m,hj,rfl,rfl,m0,m1,HA⟩:=hrel;by_cases hlt:j < l.length
  ·have i0:(0:Int)≤(j:Int):=by omega
   have i1:(j:Int) < (l.length:Int):=by omega
   obtain ⟨x,hx⟩: ∃ x,l[j]? =some x:=⟨_,Kz hlt⟩
   have qw:=du (c:=fun _:pA=>3) hx;have hup:=gK (c:=fun _:pA=>3) hx;have hg:=jK (f:=Wb) (c:=fun _:pA=>3) (k:=k) hx;rw [← HA.I.1] at hg;obtain ⟨g,ha,hat⟩:=(HR.I.1.below HA.I.2).at hg;have c0:wr.cell? ⟨g,j * 3,none⟩=some (.int .i64 (m)):=hat 0 _ rfl;have c1:wr.cell? ⟨g,j * 3+1,none⟩=some (.int .i64 (m+1)):=hat 1 _ rfl;have c2:wr.cell? ⟨g,j * 3+2,none⟩=some (.int .i64 (m+1+1)):=hat 2 _ rfl;have HX:Hid (m+3≤90000000∧m+3=k+(aF (fun _:pA=>3) (l.take (j+1)):Nat)∧a=some ⟨g,0,none⟩∧(aJ Wb (fun _=>3) k l)[j]? =some (Wb m x)):=⟨by have:=HR.I.2; have:=HA.I.1; omega,by have:=HA.I.1; omega,ha,hg⟩
   have m2:m+3≤90000000:=HX.I.1;subst ha;clear hx qw hup hg hat;go_wp2;go_roundw
   case rel=>exact ⟨j+1,m+3,by omega,by go_num,by go_num,by omega,by omega,⟨HX.I.2.1,HA.I.2⟩⟩
   case measure=>simp [intOf]; omega
  ·have i1: ¬ (j:Int) < (l.length:Int):=by omega
   have HE:Hid (m=k+(aF (fun _:pA=>3) l:Nat)):=by have h6:=HA.I.1; rw [KF (by omega)] at h6; exact h6
   go_wp2;go_ret;exact ⟨ck HE.I,HA.I.2⟩
def Wa (k:Int) (_:eQ):eQ:=⟨k,k+1,k+1+1,k+1+1+1⟩
abbrev afu (wr:World) (g j:Nat) (m:Int):World:=(((wr.setCell ⟨g,j * 4,none⟩ (.int .i64 (m))).setCell ⟨g,j * 4+1,none⟩ (.int .i64 (m+1))).setCell ⟨g,j * 4+2,none⟩ (.int .i64 (m+1+1))).setCell ⟨g,j * 4+3,none⟩ (.int .i64 (m+1+1+1))
theorem WC (a:Option Addr) (l:List eQ) (cap:Nat) (k:Int) (w:World) (base:Nat) (hl:l.length≤1048576) (h0:1≤k) (h1:k+(aF (fun _=>4) l:Nat)≤90000000) (ho:w.ownsRow base 80 4 (.slice a l.length cap) l.length (hM.flat l)):
  Calls J3 56 #[.slice a l.length cap,.int .i64 k] w fun e w'=>e= .returned (.int .i64 (k+(aF (fun _=>4) l:Nat)))∧w'.ownsRow base 80 4 (.slice a l.length cap) l.length (hM.flat (aJ Wa (fun _=>4) k l))∧aI w w' (blk a):=by
 by_cases hz:l.length=0
 ·have hl0:l= [] :=adU hz
  subst hl0;have HO:Hid (w.ownsRow base 80 4 (.slice a 0 cap) 0 (hM.flat [])):=ho;clear ho
  go_enter Tryz.func56,Tryz.ntmps56
  go_wp2_with fail
  go_loopw [1,5] (fun q i wr=>q= .int .i64 k∧i= .int .i64 0∧wr=w) (fun _ _ _=>0)
  case atStart=>exact ⟨rfl,rfl,rfl⟩
  case round=>
   obtain ⟨rfl,rfl,rfl⟩:=hrel;go_wp2;go_ret;exact ⟨ck (by simp [aF]),HO.I,aI.refl _ _⟩
 obtain ⟨g,rfl,hrow⟩:=bl.fX (K:=hM) ho hz;have HR:Hid (bl hM 80 w base g cap l):=hrow;have HB:Hid (k+(aF (fun _:eQ=>4) l:Nat)≤90000000):=h1;clear ho hrow h1 hz
 go_enter Tryz.func56,Tryz.ntmps56
 go_wp2_with fail
 go_loopw [1,5] (fun q i wr=> ∃ (j:Nat) (m:Int),j≤l.length∧i= .int .i64 j∧q= .int .i64 m∧1≤m∧m≤90000000∧Hid (m=k+(aF (fun _:eQ=>4) (l.take j):Nat)∧bl hM 80 wr base g cap (aJ Wa (fun _=>4) k (l.take j) ++ l.drop j)∧aI w wr [g])) (fun _ i _=>l.length - (intOf i).toNat)
 case atStart=>exact ⟨0,k,Ky _,rfl,rfl,h0,by have:=HB.I; omega,⟨by simp [aF],HR.I,aI.refl _ _⟩⟩
 case round=>
  clear HR;obtain ⟨j,m,hj,rfl,rfl,m0,m1,HA⟩:=hrel;by_cases hlt:j < l.length
  ·have i0:(0:Int)≤(j:Int):=by omega
   have i1:(j:Int) < (l.length:Int):=by omega
   obtain ⟨x,hx⟩: ∃ x,l[j]? =some x:=⟨_,Kz hlt⟩
   have pI:l.drop j=x :: l.drop (j+1):=mz hx;have qw:=du (c:=fun _:eQ=>4) hx;have hup:=gK (c:=fun _:eQ=>4) hx;have HX:Hid (l[j]? =some x∧m+4≤90000000∧m+4=k+(aF (fun _:eQ=>4) (l.take (j+1)):Nat)):=⟨hx,by have:=HB.I; have:=HA.I.1; omega,by have:=HA.I.1; omega⟩
   have HW:Hid (bl hM 80 wr base g cap (aJ Wa (fun _=>4) k (l.take j) ++ x :: l.drop (j+1))∧(aJ Wa (fun _=>4) k (l.take j)).length=j):=⟨by have:=HA.I.2.1; rwa [pI] at this,by rw [bE,Lk]; omega⟩
   clear hx pI qw hup;have m2:m+4≤90000000:=HX.I.2.1;have hgl:g < wr.heap.size:=HW.I.1.lt;have q0:=bl.eO HW.I.1 HW.I.2 (r:=0) (by decide:0 < hM.n);obtain ⟨⟨u0,c0⟩,f0⟩:(∃ u,wr.cell? ⟨g,j * 4,none⟩=some u)∧wr.frozen? ⟨g,j * 4,none⟩=false:=q0;have q1:=bl.eO HW.I.1 HW.I.2 (r:=1) (by decide:1 < hM.n);obtain ⟨⟨u1,c1⟩,f1⟩:(∃ u,wr.cell? ⟨g,j * 4+1,none⟩=some u)∧wr.frozen? ⟨g,j * 4+1,none⟩=false:=q1;have q2:=bl.eO HW.I.1 HW.I.2 (r:=2) (by decide:2 < hM.n);obtain ⟨⟨u2,c2⟩,f2⟩:(∃ u,wr.cell? ⟨g,j * 4+2,none⟩=some u)∧wr.frozen? ⟨g,j * 4+2,none⟩=false:=q2;have q3:=bl.eO HW.I.1 HW.I.2 (r:=3) (by decide:3 < hM.n);obtain ⟨⟨u3,c3⟩,f3⟩:(∃ u,wr.cell? ⟨g,j * 4+3,none⟩=some u)∧wr.frozen? ⟨g,j * 4+3,none⟩=false:=q3;have h5:=bl.part (K:=hM) (x:=(⟨x.src,x.ga,x.dst,x.hI⟩:eQ)) (y:=(⟨m,m+1,m+1+1,m+1+1+1⟩:eQ)) (j:=0) (vs:= [.int .i64 (m),.int .i64 (m+1),.int .i64 (m+1+1),.int .i64 (m+1+1+1)]) HW.I.1 (by show 0+4≤4; omega) (fun r hr=>by match r,hr with | 0,_=>rfl | 1,_=>rfl | 2,_=>rfl | 3,_=>rfl) (fun r hr hn=>by match r,hr,hn with | 0,_,hn=>exact absurd ⟨by omega,by show 0 < 0+4; omega⟩ hn | 1,_,hn=>exact absurd ⟨by omega,by show 1 < 0+4; omega⟩ hn | 2,_,hn=>exact absurd ⟨by omega,by show 2 < 0+4; omega⟩ hn | 3,_,hn=>exact absurd ⟨by omega,by show 3 < 0+4; omega⟩ hn );rw [HW.I.2,show hM.n=4 from rfl] at h5;simp only [bn,adV,Nat.reduceAdd,PT] at h5;have ES:Hid (bl hM 80 (afu wr g j m) base g cap (aJ Wa (fun _=>4) k (l.take j) ++ (⟨m,m+1,m+1+1,m+1+1+1⟩:eQ) :: l.drop (j+1))∧(aJ Wa (fun _=>4) k (l.take j)).length=j):=⟨h5,HW.I.2⟩
   have h6:aI w (bn wr g (j * 4) [.int .i64 (m),.int .i64 (m+1),.int .i64 (m+1+1),.int .i64 (m+1+1+1)]) [g] :=HA.I.2.2.trans (aI.set _ (by simp));simp only [bn,adV,Nat.reduceAdd] at h6;have zy:Hid (aI w (afu wr g j m) [g]):=h6;clear h6;clear h5;have HN:Hid (bl hM 80 (afu wr g j m) base g cap (aJ Wa (fun _=>4) k (l.take (j+1)) ++ l.drop (j+1))∧aI w (afu wr g j m) [g]):=⟨by rw [kE HX.I.1,Lm,← HA.I.1]; exact ES.I.1,zy.I⟩
   go_wp2;go_roundw
   case rel=>exact ⟨j+1,m+4,by omega,by go_num,by go_num,by omega,by omega,⟨HX.I.2.2,HN.I.1,HN.I.2⟩⟩
   case measure=>simp [intOf]; omega
  ·have i1: ¬ (j:Int) < (l.length:Int):=by omega
   have ej:j=l.length:=by omega
   subst ej;have HE:Hid (bl hM 80 wr base g cap (aJ Wa (fun _=>4) k l)∧m=k+(aF (fun _:eQ=>4) l:Nat)):=by have h5:=HA.I.2.1; have h6:=HA.I.1; rw [LQ,adW,QO] at h5; rw [LQ] at h6; exact ⟨h5,h6⟩
   go_wp2;go_ret;refine ⟨ck HE.I.2,?_,HA.I.2.2.mono (by simp [blk])⟩;have h7:=HE.I.1.owns;rw [bE] at h7;exact h7
theorem Xd (a:Option Addr) (l:List eQ) (cap:Nat) (k:Int) (w:World) (hl:l.length≤1048576) (h0:1≤k) (h1:k+(aF (fun _=>4) l:Nat)≤90000000) (hr:hM.bU w a (aJ Wa (fun _=>4) k l)):
  Calls J3 75 #[.slice a l.length cap,.int .i64 k] w fun e w'=>e= .returned (.int .i64 (k+(aF (fun _=>4) l:Nat)))∧Below w.heap.size w w':=by
 have HR:Hid (hM.bU w a (aJ Wa (fun _=>4) k l)∧k+(aF (fun _:eQ=>4) l:Nat)≤90000000):=⟨hr,h1⟩
 clear hr h1
 go_enter Tryz.func75,Tryz.ntmps75
 go_wp2_with fail
 go_loopw [1,5] (fun q i wr=> ∃ (j:Nat) (m:Int),j≤l.length∧i= .int .i64 j∧q= .int .i64 m∧1≤m∧m≤90000000∧Hid (m=k+(aF (fun _:eQ=>4) (l.take j):Nat)∧Below w.heap.size w wr)) (fun _ i _=>l.length - (intOf i).toNat)
 case atStart=>exact ⟨0,k,Ky _,rfl,rfl,h0,by have:=HR.I.2; omega,⟨by simp [aF],Kp _ _⟩⟩
 case round=>
  obtain ⟨j,m,hj,rfl,rfl,m0,m1,HA⟩:=hrel;by_cases hlt:j < l.length
  ·have i0:(0:Int)≤(j:Int):=by omega
   have i1:(j:Int) < (l.length:Int):=by omega
   obtain ⟨x,hx⟩: ∃ x,l[j]? =some x:=⟨_,Kz hlt⟩
   have qw:=du (c:=fun _:eQ=>4) hx;have hup:=gK (c:=fun _:eQ=>4) hx;have hg:=jK (f:=Wa) (c:=fun _:eQ=>4) (k:=k) hx;rw [← HA.I.1] at hg;obtain ⟨g,ha,hat⟩:=(HR.I.1.below HA.I.2).at hg;have c0:wr.cell? ⟨g,j * 4,none⟩=some (.int .i64 (m)):=hat 0 _ rfl;have c1:wr.cell? ⟨g,j * 4+1,none⟩=some (.int .i64 (m+1)):=hat 1 _ rfl;have c2:wr.cell? ⟨g,j * 4+2,none⟩=some (.int .i64 (m+1+1)):=hat 2 _ rfl;have c3:wr.cell? ⟨g,j * 4+3,none⟩=some (.int .i64 (m+1+1+1)):=hat 3 _ rfl;have HX:Hid (m+4≤90000000∧m+4=k+(aF (fun _:eQ=>4) (l.take (j+1)):Nat)∧a=some ⟨g,0,none⟩∧(aJ Wa (fun _=>4) k l)[j]? =some (Wa m x)):=⟨by have:=HR.I.2; have:=HA.I.1; omega,by have:=HA.I.1; omega,ha,hg⟩
   have m2:m+4≤90000000:=HX.I.1;subst ha;clear hx qw hup hg hat;go_wp2;go_roundw
   case rel=>exact ⟨j+1,m+4,by omega,by go_num,by go_num,by omega,by omega,⟨HX.I.2.1,HA.I.2⟩⟩
   case measure=>simp [intOf]; omega
  ·have i1: ¬ (j:Int) < (l.length:Int):=by omega
   have HE:Hid (m=k+(aF (fun _:eQ=>4) l:Nat)):=by have h6:=HA.I.1; rw [KF (by omega)] at h6; exact h6
   go_wp2;go_ret;exact ⟨ck HE.I,HA.I.2⟩
end
section
open Go.RowKit Go.Maps
attribute [local go_sem ↓] Kc Kd
def sm (w:World) (a a':Option Addr) (l l':List af) (W:World):Prop:=kp.bU W a l∧kp.bU W a' l'∧Below w.heap.size w W
theorem sm.below {w W W2:World} {a a':Option Addr} {l l':List af} (h:sm w a a' l l' W) (hb:Below W.heap.size W W2):sm w a a' l l' W2:=⟨h.1.below hb,h.2.1.below hb,h.2.2.trans (hb.mono h.2.2.size)⟩
theorem UA (a a':Option Addr) (l l':List af) (cap cap':Nat) (w:World) (hl:l.length≤1048576) (hk: ∀ x∈l,x.pure.Small) (hp:l'.map (·.pure)=l.map (·.pure)) (h:kp.bU w a l) (h':kp.bU w a' l'):
  Calls J3 43 #[.slice a l.length cap,.slice a' l.length cap'] w fun e w'=>e= .returned (.bool true)∧Below w.heap.size w w':=by
 have S:Hid (sm w a a' l l' w):=⟨h,h',Kp _ _⟩
 have HK:Hid ((∀ x∈l,x.pure.Small)∧l'.map (·.pure)=l.map (·.pure)):=⟨hk,hp⟩
 clear h h' hk hp
 go_enter Tryz.func43,Tryz.ntmps43
 go_wp2_with fail
 go_loopw [5] (fun i wr=> ∃ k:Nat,k≤l.length∧i= .int .i64 k∧Hid (sm w a a' l l' wr)) (fun i _=>l.length - (Go.RowKit.intOf i).toNat)
 case atStart=>exact ⟨0,Ky _,rfl,S⟩
 case round=>
  clear S;obtain ⟨k,hk,rfl,S⟩:=hrel;by_cases hlt:k < l.length
  ·have i0:(0:Int)≤(k:Int):=by omega
   have i1:(k:Int) < (l.length:Int):=by omega
   obtain ⟨x,hx⟩: ∃ x,l[k]? =some x:=⟨_,Kz hlt⟩
   obtain ⟨g,ha,-⟩:=ic S.I.1 hx;obtain ⟨y,hy,hpy⟩:=uH HK.I.2 hx;obtain ⟨g',ha',-⟩:=ic S.I.2.1 hy;have HX:Hid (y.pure=x.pure∧x.pure.Small):=⟨hpy,HK.I.1 x (KA hx)⟩
   have HC:Hid (∀ W,sm w a a' l l' W→af.In W g k x∧af.In W g' k y∧af.At W x∧af.At W y):=fun W h=>by
    obtain ⟨g1,e1,h1,t1⟩:=ic h.1 hx;obtain ⟨g2,e2,h2,t2⟩:=ic h.2.1 hy;cases ha.symm.trans e1;cases ha'.symm.trans e2;exact ⟨h1,h2,t1,t2⟩
   clear hx hy hpy;rw [ha,ha'];have HA:Hid (a=some ⟨g,0,none⟩∧a'=some ⟨g',0,none⟩):=⟨ha,ha'⟩
   clear ha ha';go_wp2_with fail;refine aT (sm w a a' l l') (by kernel_rfl) (S.I.below (Kp _ _).drew) ?_
   iterate 8 (refine PI ?_ (hy:=fun w0 hS0=>by obtain ⟨⟨q0,q1,q2,q3,q4,q5,q6,q7⟩,⟨r0,r1,r2,r3,r4,r5,r6,r7⟩,-⟩:=HC.I w0 hS0; go_simp; try with_reducible rfl))
   refine cl (.bool true) 15 #[.agg x.row,.agg y.row] ?_ (fun w0 hS0=>(Vb x y w0 HX.I.2 HX.I.1 (HC.I w0 hS0).2.2.1 (HC.I w0 hS0).2.2.2).mono fun e w1 h=>⟨h.1,hS0.below h.2⟩) ?_
   ·intro w0 hS0
    obtain ⟨⟨q0,q1,q2,q3,q4,q5,q6,q7⟩,⟨r0,r1,r2,r3,r4,r5,r6,r7⟩,-⟩:=HC.I w0 hS0
    go_simp
    try with_reducible rfl
   simp only [pt,sb,s0,s1];refine PI ?_;refine bk (by kernel_rfl) (fun w1 cm=> ?_) _;go_wp2;go_roundw
   case rel=>exact ⟨k+1,by omega,by go_num,(by have h:=cm; rw [HA.I.1,HA.I.2] at h; exact h)⟩
   case measure=>simp [Go.RowKit.intOf]; omega
  ·have i1: ¬ (k:Int) < (l.length:Int):=by omega
   go_wp2;go_ret;exact ⟨rfl,S.I.2.2⟩
theorem Tl {w:World} {p:af} (h: ∀ r∈il p,Src w r.1 r.2):p.ep w:=by
 have h1: ∀ r∈ [(p.aN,bg.flat p.L8),(p.bc,dm.flat p.aj),(p.ay,bJ.flat p.L9),(p.ax,bG.flat p.ag),(p.am,bm.flat p.ae),(p.aK,bX.flat p.ai)],Src w r.1 r.2:=fun r hr=>h r (by simp only [il,Kg]; exact .inl (.inl (.inl hr)))
 refine ⟨⟨h1 (p.aN,bg.flat p.L8) (by simp),fun x hx r hr=>h r ?_⟩,⟨h1 (p.bc,dm.flat p.aj) (by simp),fun x _ r hr=>by simp [dm] at hr⟩,⟨h1 (p.ay,bJ.flat p.L9) (by simp),fun x _ r hr=>by simp [bJ] at hr⟩,⟨h1 (p.ax,bG.flat p.ag) (by simp),fun x _ r hr=>by simp [bG] at hr⟩,⟨h1 (p.am,bm.flat p.ae) (by simp),fun x hx r hr=>h r ?_⟩,⟨h1 (p.aK,bX.flat p.ai) (by simp),fun x hx r hr=>h r ?_⟩⟩
 all_goals simp only [il,Kg,Rt]
 ·exact .inl (.inl (.inr ⟨x,hx,hr⟩))
 ·exact .inl (.inr ⟨x,hx,hr⟩)
 ·exact .inr ⟨x,hx,hr⟩
theorem UM (a:Option Addr) (l:List af) (cap:Nat) (left:Int) (w:World) (hl:l.length≤maxLen) (hc:kp.ep w a l) (hs: ∀ x∈l,x.Ud) (h0:0≤left) (h1:left≤1048576):
  Calls J3 32 #[.slice a l.length cap,.int .i64 left] w fun e w'=>jZ w left (l.length+g9 (fun x:af=>x.pure.total) l) (l.length≤1048576∧ ∀ x∈l,x.yq) e w':=by
 have hl':=hl;unfold maxLen at hl';by_cases hn:left - (l.length:Int) < 0
 ·go_enter Tryz.func32,Tryz.ntmps32
  go_wp2;go_ret;exact cT (Kp _ _) h0
 have HC:Hid (kp.ep w a l∧ ∀ x∈l,x.Ud):=⟨hc,hs⟩
 clear hc hs hl
 go_enter Tryz.func32,Tryz.ntmps32
 go_wp2_with fail
 go_loopw [1,5] (fun q i wr=> ∃ (k:Nat) (r:Int),k≤l.length∧i= .int .i64 k∧q= .int .i64 r∧0≤r∧r≤left - (l.length:Int)∧Hid ((∀ x∈l.take k,x.yq)∧r+(g9 (fun x:af=>x.pure.total) (l.take k):Nat)≤left - (l.length:Int)∧Below w.heap.size w wr)) (fun _ i _=>l.length - (Go.RowKit.intOf i).toNat)
 case atStart=>exact ⟨0,left - (l.length:Int),Ky _,rfl,rfl,by omega,by omega,⟨by simp,by simp [g9],Kp _ _⟩⟩
 case round=>
  obtain ⟨k,r,hk,rfl,rfl,r0,r1,HA⟩:=hrel;by_cases hlt:k < l.length
  ·have i0:(0:Int)≤(k:Int):=by omega
   have i1:(k:Int) < (l.length:Int):=by omega
   obtain ⟨x,hx⟩: ∃ x,l[k]? =some x:=⟨_,Kz hlt⟩
   have hmem:=KA hx;obtain ⟨b,off,rfl,hat⟩:=(HC.I.1.below HA.I.2.2).at hx;have c0:wr.cell? ⟨b,off+k * 8,none⟩=some (.int .i64 x.id):=hat 0 _ rfl;have c1:wr.cell? ⟨b,off+k * 8+1,none⟩=some (.int .i64 x.next):=hat 1 _ rfl;have c2:wr.cell? ⟨b,off+k * 8+2,none⟩=some (.slice x.aN x.L8.length x.aW):=hat 2 _ rfl;have c3:wr.cell? ⟨b,off+k * 8+3,none⟩=some (.slice x.bc x.aj.length x.bF):=hat 3 _ rfl;have c4:wr.cell? ⟨b,off+k * 8+4,none⟩=some (.slice x.ay x.L9.length x.aO):=hat 4 _ rfl;have c5:wr.cell? ⟨b,off+k * 8+5,none⟩=some (.slice x.ax x.ag.length x.aP):=hat 5 _ rfl;have c6:wr.cell? ⟨b,off+k * 8+6,none⟩=some (.slice x.am x.ae.length x.aG):=hat 6 _ rfl;have c7:wr.cell? ⟨b,off+k * 8+7,none⟩=some (.slice x.aK x.ai.length x.aV):=hat 7 _ rfl;have HX:Hid (l[k]? =some x∧x.Ud):=⟨hx,HC.I.2 x hmem⟩
   have Mb:=U6 x r wr HX.I.2 (Tl ((HC.I.1.below HA.I.2.2).2 x hmem)) r0 (by omega);unfold af.cells at Mb;clear hx hmem hat;go_wp2_with fail;refine Mb.mono ?_;clear Mb;rintro e w1 ⟨r2,rfl,q0,q1,q2,hb1⟩;have fQ:Hid (Below w.heap.size w w1∧(0≤r2→x.yq∧r2+(x.pure.total:Nat)≤r)):=⟨HA.I.2.2.trans (hb1.mono HA.I.2.2.size),q2⟩
   clear hb1 q2 c0 c1 c2 c3 c4 c5 c6 c7;by_cases hneg:r2 < 0
   ·go_wp2
    go_ret;exact cT fQ.I.1 h0
   go_wp2;go_roundw
   case rel=>exact ⟨k+1,r2,by omega,by go_num,rfl,by omega,by omega,⟨nE HX.I.1 HA.I.1 (fQ.I.2 (by omega)).1,by rw [zg HX.I.1]; have h5:=(fQ.I.2 (by omega)).2; have h6:=HA.I.2.1; omega,fQ.I.1⟩⟩
   case measure=>simp [Go.RowKit.intOf]; omega
  ·have i1: ¬ (k:Int) < (l.length:Int):=by omega
   go_wp2;go_ret;exact ⟨r,rfl,by omega,by omega,fun _=>⟨⟨by omega,po (by omega) HA.I.1⟩,by have h5:=HA.I.2.1; rw [KF (by omega)] at h5; omega⟩,HA.I.2.2⟩
theorem UD (m:Int) (a:Option Addr) (l:List pA) (cap:Nat) (left:Int) (w:World) (hl:l.length≤maxLen) (h0:0≤left) (h1:left≤1048576):
  Calls J3 31 #[.agg #[.int .i64 m,.slice a l.length cap],.int .i64 left] w fun e w'=>jZ w left l.length (l.length≤1048576) e w':=by
 have HB:Hid (Below w.heap.size w (w.alloc (.cells #[.int .i64 m,.slice a l.length cap] 24))):=(Kp _ _).alloc (Ki _) _
 go_enter Tryz.func31,Tryz.ntmps31
 go_wp2_with fail;refine (Va a l cap left _ hl h0 h1).mono ?_;rintro e w1 ⟨r,rfl,q0,q1,q2,hb⟩;have H1:Hid (Below w.heap.size w w1∧(0≤r→l.length≤1048576∧r+(l.length:Nat)≤left)):=⟨HB.I.trans (hb.mono HB.I.size),q2⟩
 clear hb q2;by_cases hneg:r < 0
 ·go_wp2
  go_ret;exact cT H1.I.1 h0
 go_wp2;go_ret;exact ⟨r,rfl,by omega,by omega,H1.I.2,H1.I.1⟩
structure eA.ep (w:World) (k:eA):Prop where
 fn:jq.ep w k.vb k.fn
 parts:kp.ep w k.qn k.parts
 eC:hM.ep w k.qi k.eC
theorem eA.ep.below {w w':World} {k:eA} (h:k.ep w) (hb:Below w.heap.size w w'):k.ep w':=⟨h.fn.below hb,h.parts.below hb,h.eC.below hb⟩
structure eA.Ud (k:eA):Prop where
 Ts:k.fn.length≤maxLen
 sC:k.parts.length≤maxLen
 w8:k.eC.length≤maxLen
 parts: ∀ p∈k.parts,p.Ud
structure eA.yq (k:eA):Prop where
 Ts:k.fn.length≤1048576
 sC:k.parts.length≤1048576
 w8:k.eC.length≤1048576
 parts: ∀ p∈k.parts,p.yq
theorem Um (k:eA) (left:Int) (w:World) (hb:k.Ud) (hc:k.ep w) (h0:0≤left) (h1:left≤1048576):
  Calls J3 8 #[.agg k.row,.int .i64 left] w fun e w'=>jZ w left (k.fn.length+(k.parts.length+g9 (fun x:af=>x.pure.total) k.parts)+k.eC.length) k.yq e w':=by
 have HX:Hid ((w.alloc (.cells k.row 28)).heap[w.heap.size]? =some (.cells k.row 28 (0,0))∧Below w.heap.size w (w.alloc (.cells k.row 28))):=⟨Kj _ _,(Kp _ _).alloc (Ki _) _⟩
 have HB:=aA hb;have HC:=aA hc;clear hb hc
 go_enter Tryz.func8,Tryz.ntmps8
 go_upto_region 1 with fail;generalize w.alloc (.cells k.row 28)=W at *;have c1:W.cell? ⟨w.heap.size,1,none⟩=some (.int .i64 k.major):=by simp [World.cell?,HX.I.1]
 have c2:W.cell? ⟨w.heap.size,2,none⟩=some (.slice k.vb k.fn.length k.Te):=by simp [World.cell?,HX.I.1]
 go_wp2_with fail;clear c1 c2;refine (UD k.major k.vb k.fn k.Te left W HB.I.Ts h0 h1).mono ?_;rintro e w1 ⟨r1,rfl,q0,q1,q2,hb⟩;replace HX:=aA (And.intro ((hb.block _ (J2.1 HX.I.1).1).trans HX.I.1) (HX.I.2.trans (hb.mono HX.I.2.size)));have H1:=aA q2;clear hb q2;by_cases hn1:r1 < 0
 ·go_wp2
  go_ret;exact cT HX.I.2 h0
 have c3:w1.cell? ⟨w.heap.size,3,none⟩=some (.slice k.qn k.parts.length k.sa):=by simp [World.cell?,HX.I.1]
 go_wp2_with fail;clear c3;refine (UM k.qn k.parts k.sa r1 w1 HB.I.sC (HC.I.parts.below HX.I.2) HB.I.parts (by omega) (by omega)).mono ?_;rintro e w2 ⟨r2,rfl,p0,p1,p2,hb⟩;replace HX:=aA (And.intro ((hb.block _ (J2.1 HX.I.1).1).trans HX.I.1) (HX.I.2.trans (hb.mono HX.I.2.size)));have H2:=aA p2;clear hb p2;by_cases hn2:r2 < 0
 ·go_wp2
  go_ret;exact cT HX.I.2 h0
 have c4:w2.cell? ⟨w.heap.size,4,none⟩=some (.slice k.qi k.eC.length k.tC):=by simp [World.cell?,HX.I.1]
 go_wp2_with fail;clear c4;refine (UB k.qi k.eC k.tC r2 w2 HB.I.w8 (by omega) (by omega)).mono ?_;rintro e w3 ⟨r3,rfl,s0,s1,s2,hb⟩;replace HX:=aA (HX.I.2.trans (hb.mono HX.I.2.size));have H3:=aA s2;clear hb s2;by_cases hn3:r3 < 0
 ·go_wp2
  go_ret;exact cT HX.I h0
 go_wp2;go_ret;exact ⟨r3,rfl,by omega,by omega,fun _=>⟨⟨(H1.I (by omega)).1,(H2.I (by omega)).1.1,(H3.I (by omega)).1,(H2.I (by omega)).1.2⟩,by have a1:=(H1.I (by omega)).2; have a2:=(H2.I (by omega)).2; have a3:=(H3.I (by omega)).2; omega⟩,HX.I⟩
end
section
open Go.RowKit
attribute [local go_sem] Oper.semAt_some
theorem aaV (cs:Array Value) (major:Int) (len:Nat) (Z:Nat→Int) (h:P2 major len Z cs) (hn:len≤20) (B:Nat):abB 100 J3 160 #[.agg cs] (fun k=> #[Z4 Z k]) len B:=by
 intro l M YP W hB hM hY h0;have hsz:=h.1;have hlt1:1 < cs.size:=by omega
 have aaA:cs[1] = .int .i64 len:=by have:=h.count; rw [Array.getElem?_eq_getElem hlt1] at this; exact KC this
 have HM:Hid (∀ k X o,M k X→M k (X.alloc o)):=hM;have HY:Hid (∀ k X,k < len→M k X→YieldAt Fence.wide 4 J3 l #[Z4 Z k] X fun e X'=>(e= .returned (.bool true)∧M (k+1) X'∧Zu 100 B X X')∨(e= .returned (.bool false)∧YP X')):=hY;clear hM hY;refine callsIn_of_wp Tryz.func160 rfl trivial ?_ rfl;simp only [Tryz.ntmps160,List.size_toArray,List.length_cons,List.length_nil,Nat.reduceAdd,Nat.reduceSub,Array.replicate_succ,Array.replicate_zero,List.push_toArray,List.append_toArray,List.nil_append,List.cons_append]
 gi_wp2
 clear aaA
 gi_loopw [7] (fun i wr=> ∃ k:Nat,k≤len∧i= .int .i64 k∧M k wr∧wr.heap[W.heap.size]? =some (.cells cs 103 (0,0))) (fun i _=>len - (intOf i).toNat)
 case atStart=>exact ⟨0,Ky _,rfl,HM.I _ _ _ h0,Kj _ _⟩
 case round=>
  obtain ⟨k,hk,rfl,hMk,lD⟩:=hrel;by_cases hlt:k < len
  ·have c0:wr.cell? ⟨W.heap.size,2+k * 3,none⟩=some (.int .i64 (Z (k * 3))):=by rw [K5 wr _ _ cs 103 _ lD]; exact h.win hn (by omega)
   have c1:wr.cell? ⟨W.heap.size,2+k * 3+1,none⟩=some (.int .i64 (Z (k * 3+1))):=by rw [K5 wr _ _ cs 103 _ lD]; exact h.win hn (j:=k * 3+1) (by omega)
   have c2:wr.cell? ⟨W.heap.size,2+k * 3+2,none⟩=some (.int .i64 (Z (k * 3+2))):=by rw [K5 wr _ _ cs 103 _ lD]; exact h.win hn (j:=k * 3+2) (by omega)
   obtain ⟨fn,tmps,assign,body,hy,hR⟩:=HY.I k wr hlt hMk;simp only [Z4] at hy;have HR:Hid (RoundIn Fence.wide 4 J3 l fn tmps assign body wr fun e X'=>(e= .returned (.bool true)∧M (k+1) X'∧Zu 100 B wr X')∨(e= .returned (.bool false)∧YP X')):=hR;have Uc:Hid (wr.heap[W.heap.size]? =some (.cells cs 103 (0,0))):=lD;clear hR lD
   gi_wp2
   refine HR.I.mono ?_;rintro e W3 (⟨rfl,hM3,hk3⟩ | ⟨rfl,hx3⟩)
   ·have b3:=hk3.2 W.heap.size cs 103 (0,0) (by decide) hB Uc.I
    have oh:Hid (W3.heap[W.heap.size]? =some (.cells cs 103 (0,0))):=b3;clear b3
    gi_wp2
    go_roundw
    case rel=>exact ⟨k+1,by omega,by go_num,hM3,oh.I⟩
    case measure=>simp [intOf]; omega
   ·gi_wp2
    refine KT (results_none rfl _ _ _) rfl ?_;exact ⟨⟨_,rfl⟩,.inr hx3⟩
  ·gi_wp2
   go_end0
   have e:k=len:=by omega
   subst e;exact ⟨⟨_,rfl⟩,.inl hMk⟩
end
section
open Go.RowKit Go.Maps
attribute [local go_sem ↓] Kc Kd
structure T1 (w:World) (K b:Nat) (now:Int) (tab:Array Value) (a:Option Addr) (cap:Nat) (ls:List gi) (W:World):Prop where
 kept:aI w W [K]
 TN:W.rowIs K 107 65 (B3 now tab b a ls.length cap)
 own:W.ownsRow w.heap.size 205 6 (.slice a ls.length cap) ls.length (qo.flat ls)
section
variable {w W W2:World} {K b:Nat} {now:Int} {tab:Array Value} {a:Option Addr} {cap:Nat} {ls:List gi} {l:List (aZ × Nat)} {ps:List aE}
theorem T1.below (h:T1 w K b now tab a cap ls W) (hb:Below W.heap.size W W2):T1 w K b now tab a cap ls W2:=⟨h.kept.trans (.dI hb),h.TN.of_block (hb.block _ h.TN.lt),cR h.own hb⟩
structure VK (w:World) (K b:Nat) (l:List (aZ × Nat)):Prop where
 map:cF w b (l.map fun p=>(p.1.q.id,p.2))
 part: ∀ p∈l,∃ base,K < base∧cJ w base p.2 p.1
 nodup:(l.flatMap fun p=>p.1.lq.map (·.2)).Nodup
 kb:K≠b
 k:K < w.heap.size
 apart:l.Pairwise fun p q=> ∀ g∈p.1.all p.2,∀ g'∈q.1.all q.2,g≠g'
theorem VK.kept (h:VK w K b l) (hk:aI w W [K]):VK W K b l:=
 ⟨h.map.same (hk.same b h.map.lt (by simp [h.kb.symm])),fun p hm=>by
  obtain ⟨bs,h1,h2⟩:=h.part p hm;exact ⟨bs,h1,h2.same fun g hg hl=>hk.same g hl (by simp; omega)⟩,h.nodup,h.kb,by have:=hk.size; have:=h.k; omega,h.apart⟩
theorem T1.kmap (h:T1 w K b now tab a cap ls W) (hp:VK w K b l):KMap W K b l:=
 have h2:=hp.kept h.kept
 ⟨h.TN.cell (i:=63) (by omega),h2.map,fun p hm=>(h2.part p hm).imp fun _ h=>h.2⟩
theorem D3 (hp: ∀ p∈l,∃ base,cJ w base p.2 p.1) (hl:l.map (·.1.pure)=ps) (part id:Int):
  (kt l part id=none∧endP ps part id=none)∨ ∃ g x,kt l part id=some g∧endP ps part id=some (aM.todS x)∧w.heap[g]? =some (.cells (cW x) 85 (0,0)):=by
 subst hl;have e1:hP (fun x:aE=>x.id) part (l.map (·.1.pure))=(l.find? (fun p=>p.1.q.id == part)).map (·.1.pure):=by
  unfold hP;rw [aeu]
  congr 2
 unfold kt endP;rw [e1];cases hf:l.find? (fun p=>p.1.q.id == part) with
 | none=>exact .inl ⟨rfl,rfl⟩
 | some q=>
  have e2:hP (fun x:dS=>x.id) id (q.1.lq.map (·.1.todS))=(q.1.lq.find? (fun p=>p.1.id == id)).map (·.1.todS):=by
   unfold hP;rw [aeu]
   congr 2
  have e3:cz (RW (fun x:aM=>x.id) q.1.lq) id=(q.1.lq.find? (fun p=>p.1.id == id)).map (·.2):=by
   unfold cz RW;rw [aeu,aeF];rfl
  simp only [Option.map_some,Option.bind_some]
  show (cz (RW (fun x:aM=>x.id) q.1.lq) id=none∧hP (fun x:dS=>x.id) id (q.1.lq.map (·.1.todS))=none)∨_
  rw [e3,e2];cases hg:q.1.lq.find? (fun p=>p.1.id == id) with
  | none=>exact .inl ⟨rfl,rfl⟩
  | some r=>
   obtain ⟨bs,ho⟩:=hp q (RG hf);refine .inr ⟨r.2,r.1,rfl,?_,ho.ai.box r (RG hg)⟩
   show hP (fun x:dS=>x.id) id (q.1.lq.map (·.1.todS))=_
   rw [e2,hg];rfl
theorem TW {α β:Type} {f:α→List β} : ∀ {l:List α},(l.flatMap f).Nodup→ ∀ {x y:α} {g:β},x∈l→y∈l→g∈f x→g∈f y→x=y
 | [],_,_,_,_,h,_,_,_=>by cases h
 | z :: r,h,x,y,g,hx,hy,h1,h2=>by
  rw [aez,Kf] at h;rcases Kt.1 hx with ex | hx'
  ·rcases Kt.1 hy with ey | hy'
   ·rw [ex,ey]
   ·exact absurd rfl (h.2.2 g (by rw [← ex]; exact h1) g (Rt.2 ⟨y,hy',h2⟩))
  ·rcases Kt.1 hy with ey | hy'
   ·exact absurd rfl (h.2.2 g (by rw [← ey]; exact h2) g (Rt.2 ⟨x,hx',h1⟩))
   ·exact TW h.2.1 hx' hy' h1 h2
theorem map_inj {α β:Type} {f:α→β} : ∀ {l:List α},(l.map f).Nodup→ ∀ {x y:α},x∈l→y∈l→f x=f y→x=y
 | [],_,_,_,h,_,_=>by cases h
 | z :: r,h,x,y,hx,hy,e=>by
  rw [List.map_cons,Lp] at h;rcases Kt.1 hx with ex | hx'
  ·rcases Kt.1 hy with ey | hy'
   ·rw [ex,ey]
   ·exact absurd (Lr.2 ⟨y,hy',by rw [← e,ex]⟩) h.1
  ·rcases Kt.1 hy with ey | hy'
   ·exact absurd (Lr.2 ⟨x,hx',by rw [e,ey]⟩) h.1
   ·exact map_inj h.2 hx' hy' e
theorem vl {α β:Type} {f:α→List β} : ∀ {l:List α},(l.flatMap f).Nodup→ ∀ {x:α},x∈l→(f x).Nodup
 | [],_,_,h=>by cases h
 | z :: r,h,x,hx=>by
  rw [aez,Kf] at h;rcases Kt.1 hx with rfl | hx
  ·exact h.1
  ·exact vl h.2.1 hx
theorem TC {part id:Int} {g:Nat} (h:kt l part id=some g): ∃ q∈l,q.1.q.id=part∧ ∃ x∈q.1.lq,x.2=g∧x.1.id=id:=by
 unfold kt at h;cases hf:l.find? (fun p=>p.1.q.id == part) with
 | none=>rw [hf] at h; cases h
 | some q=>
  rw [hf] at h;simp only [cz,RW,aeu,aeF,Kw] at h;obtain ⟨x,hx,e⟩:=h;exact ⟨q,RG hf,by simpa using PS hf,x,RG hx,e,by simpa using PS hx⟩
theorem UP (hn:(l.flatMap fun p=>p.1.lq.map (·.2)).Nodup) {p p' i i':Int} {g:Nat} (h:kt l p i=some g) (h':kt l p' i'=some g):p=p'∧i=i':=by
 obtain ⟨q,hq,rfl,x,hx,e,rfl⟩:=TC h;obtain ⟨q',hq',rfl,x',hx',e',rfl⟩:=TC h';have h1:=TW hn hq hq' (Lr.2 ⟨x,hx,e⟩) (Lr.2 ⟨x',hx',e'⟩);subst h1;have h2:=map_inj (vl hn hq) hx hx' (e.trans e'.symm);subst h2;exact ⟨rfl,rfl⟩
theorem VC {a:Option Addr} {n c g:Nat} (h:(Value.slice a n c).ownBlock=some g):g∈blk a:=by
 cases a with
 | none=>simp [Value.ownBlock] at h
 | some ad=>simpa [Value.ownBlock,blk,eq_comm] using h
theorem U8:(Tryz.prog.info? 205).map (fun i=>(i.zero,i.size,i.bytes))=some (some (.agg #[.int .i64 0,.int .i64 0,.int .i64 0,.int .i64 0,.pointer none,.pointer none]),6,48):=by kernel_rfl
theorem Vc {base:Nat} (m:gi) (ho:W.ownsRow base 205 6 (.slice a ls.length cap) ls.length (qo.flat ls)) (hn:ls.length≤10) (hb:base≤W.heap.size):
  ∃ a' cap' w',(Builtin.append_ #[105,105] 105 #[.slice a ls.length cap,.slice (some ⟨W.heap.size,0,none⟩) 1 1]).run J3 (W.alloc (.cells (fz m) 205))= .ok (.slice a' (ls.length+1) cap') w'∧w'.ownsRow base 205 6 (.slice a' (ls.length+1) cap') (ls.length+1) (qo.flat (ls ++ [m]))∧aI W w' (blk a):=by
 have hz:Below W.heap.size W (W.alloc (.cells (fz m) 205)):=(Kp _ _).alloc (Ki _) _;obtain ⟨i,hi,e⟩:=Kw.1 U8;simp only [Prod.mk.injEq] at e;have hcell: ∀ j u,(tA m)[j]? =some u→(W.alloc (.cells (fz m) 205)).cell? ((⟨W.heap.size,0,none⟩:Addr).add j)=some u:=fun j u hu=>by
  have h1:(W.alloc (.cells (fz m) 205)).heap[W.heap.size]? =some (.cells (fz m) 205 (0,0)):=Kj _ _;have h2:(fz m)[j]? =some u:=by rw [← Array.getElem?_toList]; exact hu
  rw [qZ];unfold World.cell?;rw [h1];exact h2
 obtain ⟨v',w',hr,ho',hg,-,-⟩:=run_append_own_at (P:=J3) (W.alloc (.cells (fz m) 205)) base 105 105 205 i _ 6 48 Tryz.underlying105 hi e.1 e.2.1 e.2.2 rfl (by decide) (.slice a ls.length cap) ls.length (qo.flat ls) (cR ho hz) ⟨W.heap.size,0,none⟩ 1 1 (tA m) rfl hcell (fun u hu=>by
  simp only [tA,Kt,Ku,or_false] at hu;rcases hu with rfl | rfl | rfl | rfl | rfl | rfl <;> rfl) (by unfold maxLen; omega) (by omega) (by have:=hz.size; omega)
 obtain ⟨a',cap',rfl,-⟩:=cr ho';have aS:qo.flat (ls ++ [m])=qo.flat ls ++ tA m:=by simp [Kind.flat,qo]
 refine ⟨a',cap',w',hr,by rw [aS]; exact ho',⟨hg.os,hg.tape,hg.output,LG hz.size hg.size,fun g hgl hgn=> ?_⟩⟩;have h1:=hz.block g hgl;rw [← h1];exact hg.block g (by have:=hz.size; omega) fun e=>hgn (VC e.symm)
theorem T1.more {a2:Option Addr} {Ta:Nat} {W7:World} {m:gi} (h:T1 w K b now tab a cap ls W) (hK:K < w.heap.size) (ho:W7.ownsRow w.heap.size 205 6 (.slice a2 (ls.length+1) Ta) (ls.length+1) (qo.flat (ls ++ [m]))) (hk:aI W W7 (blk a)):T1 w K b now tab a2 Ta (ls ++ [m]) (W7.setCell ⟨K,64,none⟩ (.slice a2 (ls.length+1) Ta)):=by
 have hlow: ∀ g∈blk a,w.heap.size≤g:=fun g hg=>(cf h.own hg).1
 have hr:W7.rowIs K 107 65 (B3 now tab b a ls.length cap):=h.TN.of_block (hk.same K h.TN.lt fun hm=>by have:=hlow K hm; omega);have h7:aI w W7 [K] :=⟨hk.os.trans h.kept.os,hk.tape.trans h.kept.tape,hk.output.trans h.kept.output,LG h.kept.size hk.size,fun g hg hn=>(hk.same g (by have:=h.kept.size; omega) fun hm=>by have:=hlow g hm; omega).trans (h.kept.same g hg hn)⟩
 refine ⟨h7.trans (aI.set (off:=64) [_] (by simp)),?_,?_⟩
 ·rw [Lf,adg]
  refine (hr.set 64 _).congr fun j hj=> ?_
  unfold B3;by_cases e:j=64
  ·subst e; simp
  ·simp [e]
 ·rw [Lf,adg]
  exact aL ho fun g hg=>Go.Deep.blk_setCell_other _ _ _ _ (by have:=(cf ho hg).1; show g≠K; omega)
def Joins (l:List (aZ × Nat)) (o:gi):Prop:=kt l o.c.src o.c.ga=some o.s∧kt l o.c.dst o.c.hI=some o.t
theorem Joins.at (hp: ∀ p∈l,∃ base,cJ w base p.2 p.1) (hl:l.map (·.1.pure)=ps) {o:gi} (h:Joins l o):rl w o:=by
 rcases D3 hp hl o.c.src o.c.ga with ⟨h1,-⟩ | ⟨g,x,h1,-,hx⟩
 ·rw [h.1] at h1; cases h1
 rcases D3 hp hl o.c.dst o.c.hI with ⟨h2,-⟩ | ⟨g2,y,h2,-,hy⟩
 ·rw [h.2] at h2; cases h2
 have e1:=h.1.symm.trans h1;have e2:=h.2.symm.trans h2;simp only [LF] at e1 e2;rw [← e1] at hx;rw [← e2] at hy;exact ⟨x,y,hx,hy⟩
theorem Ur {α:Type} {f g:α→Bool} : ∀ {l:List α},(∀ x∈l,f x=g x)→l.any f=l.any g
 | [],_=>rfl
 | x :: r,h=>by simp only [List.any_cons]; rw [h x (by simp),Ur fun y hy=>h y (by simp [hy])]
theorem TA (hn:(l.flatMap fun p=>p.1.lq.map (·.2)).Nodup) {p p' i i':Int} {g g':Nat} (h:kt l p i=some g) (h':kt l p' i'=some g'):decide (g=g')=(decide (p'=p) && decide (i'=i)):=by
 by_cases e:g=g'
 ·subst e
  obtain ⟨rfl,rfl⟩:=UP hn h h';simp
 ·rw [decide_eq_false e]
  by_cases e1:p'=p
  ·by_cases e2:i'=i
   ·subst e1 e2
    rw [h] at h';cases h';exact absurd rfl e
   ·simp [e2]
  ·simp [e1]
theorem Ub (hn:(l.flatMap fun p=>p.1.lq.map (·.2)).Nodup) {m:gi} (hm:Joins l m) (hL: ∀ o∈ls,Joins l o):ls.any (ts m (zo ps m.c))=(ls.map (·.c)).any (hR ps m.c):=by
 rw [List.any_map];refine Ur fun o ho=> ?_
 unfold ts
 show _=hR ps m.c o.c
 unfold hR;rw [TA hn hm.2 (hL o ho).2,TA hn hm.1 (hL o ho).1]
end
end
end Go.Proofs.YteidkehoekbcaaaGreat
