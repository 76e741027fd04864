/- What the proof leans on, part 17. -/
import Derived.Test.YteidkehoekbcaaaGreatOwnC16
import Derived.Lib.SliceRun
set_option maxRecDepth 100000
set_option maxHeartbeats 8000000
open Array renaming getElem?_eq_some_iff->J2,getElem?_toList->QJ
open Go renaming heap_alloc_new->Kj,wp_at_succ->Kd,wp_at_zero->Kc
open Go.Proofs.Tryz renaming prog->J3
open Go.RowKit.Below renaming refl->Kp
open Go.Value.slice renaming injEq->LD
open Go.World renaming ownsRow_nil->Ke
open List renaming append_assoc->Lm,getElem?_eq_getElem->Kz,getElem?_eq_some_iff->Lj,getElem?_map->Kk,getElem?_take->QW,length_set->LI,length_take->Lk,map_set->PN,mem_append->Kg,mem_append_left->Lz,mem_append_right->Ly,mem_cons->Kt,mem_flatMap->Rt,mem_map->Lr,mem_of_mem_drop->RL,mem_of_mem_take->RK,mem_or_eq_of_mem_set->PO,nodup_append->Kf,set_eq_take_append_cons_drop->RJ
open Nat renaming le_refl->Ki,zero_add->Li,zero_le->Ky
open Option renaming map_eq_some_iff->Kw
open Option.some renaming inj->KC,injEq->LF
open Prod.mk renaming injEq->Kx

namespace Go.Proofs.YteidkehoekbcaaaGreat
section
open Go.RowKit Go.Maps
structure yr (w:World) (base:Nat) (q q2:af) (W:World):Prop where
 own:ap W base q2
 kept:aI w W q.Mc
 far: ∀ g∈q2.Mc,g∈q.Mc∨w.heap.size≤g
theorem rn {α:Type} {K:Kind α} {T:TypeId} {w:World} {base cap n gs j:Nat} {a:Option Addr} {l:List α} {x y:α} {v:Value} (h:w.ownsRow base T K.n (.slice a l.length cap) l.length (K.flat l)) (hx:l[n]? =some x) (ha:a=some ⟨gs,0,none⟩) (hj:j < K.n) (hv:K.vals y=(K.vals x).set j v):
  (w.setCell ⟨gs,n * K.n+j,none⟩ v).ownsRow base T K.n (.slice a l.length cap) l.length (K.flat (l.set n y))∧aI w (w.setCell ⟨gs,n * K.n+j,none⟩ v) (blk a)∧(∃ u,w.cell? ⟨gs,n * K.n+j,none⟩=some u)∧w.frozen? ⟨gs,n * K.n+j,none⟩=false:=by
 have hn:n < l.length:=(Lj.1 hx).1;obtain ⟨g,hg,hrow⟩:=bl.fX (K:=K) h (by omega);rw [ha] at hg;cases hg;have h7:=hrow.cell hx (r:=j) hj;have hsp:=kL hx;have hset:l.set n y=l.take n ++ y :: l.drop (n+1):=by rw [RJ,if_pos hn]
 have hl:(l.take n).length=n:=by rw [Lk]; omega
 rw [hsp] at hrow;have h5:=bl.part (K:=K) (x:=x) (y:=y) (j:=j) (vs:= [v]) hrow (by simp; omega) (fun r hr=>by simp at hr; subst hr; rw [Nat.add_zero,hv,List.getElem?_set_self (by rw [K.len]; exact hj)]; rfl) (fun r hr hn=>by rw [hv,List.getElem?_set_ne (by simp at hn; omega)]);rw [hl,← hset] at h5;have h6:=h5.owns;rw [LI] at h6;rw [ha];exact ⟨h6,aI.set (vs:= [v]) (by simp [blk]),⟨_,h7.1.trans (Kz (by rw [K.len]; exact hj))⟩,h7.2⟩
theorem uX {P1 P2:List Nat} {a b:Option Nat} (h:(P1 ++ (a.toList ++ P2)).Nodup) (hb: ∀ g,b=some g→g∉P1∧g∉P2):(P1 ++ (b.toList ++ P2)).Nodup:=by
 obtain ⟨h1,h2,h3⟩:=Kf.1 h;obtain ⟨-,h5,-⟩:=Kf.1 h2;refine Kf.2 ⟨h1,Kf.2 ⟨by cases b <;> simp,h5,fun x hx y hy e=> ?_⟩,fun x hx y hy e=> ?_⟩
 ·cases b with
  | none=>simp at hx
  | some g=>simp at hx; subst hx; exact (hb x rfl).2 (e ▸ hy)
 ·rcases Kg.1 hy with hy | hy
  ·cases b with
   | none=>simp at hy
   | some g=>simp at hy; subst hy; exact (hb y rfl).1 (e ▸ hx)
  ·exact h3 x hx y (Ly _ hy) e
theorem ou (w:World) (base:Nat) (a0:Option Addr) (c0:Nat) (l0:List ByteArray) (ho:w.ownsRow base 9 1 (.slice a0 l0.length c0) l0.length (bT.flat l0)) (a:Option Addr) (l:List ByteArray) (cap:Nat) (h:ld w a (bT.flat l)) (hl:l0.length+l.length≤4000000) (lY:base≤w.heap.size):
  ∃ a' cap' w',(Builtin.append_ #[83,83] 83 #[.slice a0 l0.length c0,.slice a l.length cap]).run J3 w= .ok (.slice a' (l0.length+l.length) cap') w'∧w'.ownsRow base 9 1 (.slice a' (l0.length+l.length) cap') (l0.length+l.length) (bT.flat (l0 ++ l))∧w.grownBy w' (Value.slice a0 l0.length c0).ownBlock∧ ∀ g∈blk a',g∈blk a0∨g=w.heap.size:=by
 obtain ⟨i,hi,e⟩:=Kw.1 zD;simp only [Kx] at e;rw [bT.dc];exact jD w base _ _ 9 i _ 1 16 Tryz.underlying83 hi e.1 e.2.1 e.2.2 rfl (by decide) a0 l0.length c0 _ ho a l.length cap _ h (bT.dM l) yK hl (by decide) lY
theorem IN (w:World) (s:ByteArray):(w.alloc (.cells #[.string s] 9)).ownsRow w.heap.size 9 1 (.slice (some ⟨w.heap.size,0,none⟩) [s].length 1) [s].length (bT.flat [s]):=
 ⟨rfl,.inr ⟨w.heap.size,1,#[.string s],rfl,Ki _,Kj _ _,Ki _,by decide,rfl,rfl⟩⟩
theorem aI.grown {w w5 w7:World} {a:Option Addr} {n c:Nat} (hb:Below w.heap.size w w5) (hg:w5.grownBy w7 (Value.slice a n c).ownBlock):aI w w7 (blk a):=
 ⟨hg.os.trans hb.os,hg.tape.trans hb.tape,hg.output.trans hb.output,Nat.le_trans hb.size hg.size,fun g h1 h2=>(hg.block g (Nat.lt_of_lt_of_le h1 hb.size) fun e=>h2 (di e.symm)).trans (hb.block g h1)⟩
section
variable {w W:World} {base n gs:Nat} {q:af}
theorem pg {x:aM} {l:List ByteArray} {a:Option Addr} {c:Nat} (h:ap w base q) (hb:aI w W (blk x.ak)) (hx:q.ai[n]? =some x) (ha:q.aK=some ⟨gs,0,none⟩) (ho:W.ownsRow base 9 1 (.slice a l.length c) l.length (bT.flat l)) (hf: ∀ g∈blk a,g∈blk x.ak∨w.heap.size≤g):
  yr w base q ({ q with ai:=q.ai.set n { x with Ma:=l,ak:=a,aq:=c } } :af) (W.setCell ⟨gs,n * 5+4,none⟩ (.slice a l.length c))∧(∃ u,W.cell? ⟨gs,n * 5+4,none⟩=some u)∧W.frozen? ⟨gs,n * 5+4,none⟩=false:=by
 have hn:n < q.ai.length:=(Lj.1 hx).1;have hset:q.ai.set n { x with Ma:=l,ak:=a,aq:=c } =q.ai.take n ++ { x with Ma:=l,ak:=a,aq:=c } :: q.ai.drop (n+1):=by rw [RJ,if_pos hn]
 have hk: ∀ (z:aM) (A B:List aM),(A ++ z :: B).filterMap aU.bt=A.filterMap aU.bt ++ ((aU.bt z).toList ++ B.filterMap aU.bt):=fun z A B=>by
  rw [List.filterMap_append,List.filterMap_cons];cases aU.bt z <;> simp
 have h6:q.ai.filterMap aU.bt=(q.ai.take n).filterMap aU.bt ++ ((aU.bt x).toList ++ (q.ai.drop (n+1)).filterMap aU.bt):=(congrArg (List.filterMap aU.bt) (kL hx)).trans (hk _ _ _);obtain ⟨P1,uZ⟩: ∃ P1,P1=blk q.aN ++ (q.L8.filterMap aR.bt ++ (blk q.bc ++ (blk q.ay ++ (blk q.ax ++ (blk q.am ++ (q.ae.filterMap aC.bt ++ blk q.aK)))))) ++ (q.ai.take n).filterMap aU.bt:=⟨_,rfl⟩
 obtain ⟨P2,IQ⟩: ∃ P2,P2=(q.ai.drop (n+1)).filterMap aU.bt:=⟨_,rfl⟩
 have e1:q.Mc=P1 ++ ((aU.bt x).toList ++ P2):=by rw [uZ,IQ]; simp only [af.Mc,h6,Lm]
 have e2:({ q with ai:=q.ai.set n { x with Ma:=l,ak:=a,aq:=c } } :af).Mc=P1 ++ ((a.map (·.block)).toList ++ P2):=by
  rw [uZ,IQ];simp only [af.Mc,hset,hk,Lm];rfl
 have hkx: ∀ g,g∈blk x.ak↔g∈(aU.bt x).toList:=fun g=>Iff.rfl
 have Dl:=h.nodup;rw [e1] at Dl;have hP: ∀ g,g∈P1∨g∈P2→g∉blk x.ak:=fun g hg hm=>by
  obtain ⟨-,k2,k3⟩:=Kf.1 Dl;obtain ⟨-,-,k6⟩:=Kf.1 k2;rcases hg with hg | hg
  ·exact k3 g hg g (Lz _ ((hkx g).1 hm)) rfl
  ·exact k6 g ((hkx g).1 hm) g hg rfl
 have hin: ∀ g,g∈P1∨g∈P2→g∈q.Mc:=fun g hg=>by
  rw [e1];rcases hg with hg | hg
  ·exact Lz _ hg
  ·exact Ly _ (Ly _ hg)
 have hgl:gs∈blk q.aK:=by rw [ha]; simp [blk]
 have hgP:gs∈P1:=by rw [uZ]; simp [hgl]
 have hsW: ∀ g,g∈P1∨g∈P2→W.heap[g]? =w.heap[g]? :=fun g hg=>hb.same g (h.lt g (hin g hg)).2 (hP g hg)
 have hrow:=aL h.ai fun g hg=>hsW g (.inl (by rw [uZ]; simp [hg]))
 obtain ⟨h1,h2,h3⟩:=rn (K:=bX) (y:= { x with Ma:=l,ak:=a,aq:=c }) (v:= .slice a l.length c) hrow hx ha (show 4 < 5 by decide) rfl;refine ⟨?_,h3⟩;have hnd:({ q with ai:=q.ai.set n { x with Ma:=l,ak:=a,aq:=c } } :af).Mc.Nodup:=by
  rw [e2];refine uX Dl fun g hg=> ?_
  rcases hf g (fZ.2 hg) with hm | hm
  ·exact ⟨fun hq=>hP g (.inl hq) hm,fun hq=>hP g (.inr hq) hm⟩
  ·exact ⟨fun hq=>by have:=(h.lt g (hin g (.inl hq))).2; omega,fun hq=>by have:=(h.lt g (hin g (.inr hq))).2; omega⟩
 have hs: ∀ g,g≠gs→(W.setCell ⟨gs,n * 5+4,none⟩ (.slice a l.length c)).heap[g]? =W.heap[g]? :=fun g hg=>aH hg
 have hsp:q.Mc=(blk q.aN ++ (q.L8.filterMap aR.bt ++ (blk q.bc ++ (blk q.ay ++ (blk q.ax ++ (blk q.am ++ q.ae.filterMap aC.bt)))))) ++ (blk q.aK ++ (q.ai.filterMap aU.bt)):=by simp [af.Mc,Lm]
 have nw: ∀ g,(g∈(blk q.aN ++ (q.L8.filterMap aR.bt ++ (blk q.bc ++ (blk q.ay ++ (blk q.ax ++ (blk q.am ++ q.ae.filterMap aC.bt))))))∨g∈(q.ai.filterMap aU.bt))→g≠gs:=fun g hg he=>by
  have h5:=h.nodup;rw [hsp] at h5;obtain ⟨-,k2,k3⟩:=Kf.1 h5;obtain ⟨-,-,k6⟩:=Kf.1 k2;rcases hg with hg | hg
  ·exact k3 g hg gs (Lz _ hgl) he
  ·exact k6 gs hgl g hg he.symm
 have hall: ∀ g,g∈P1∨g∈P2→g≠gs→(W.setCell ⟨gs,n * 5+4,none⟩ (.slice a l.length c)).heap[g]? =w.heap[g]? :=fun g hg hne=>(hs g hne).trans (hsW g hg)
 refine ⟨⟨aL h.L8 fun g hg=>hall g (.inl (by rw [uZ]; simp [hg])) (nw g (.inl (by simp [hg]))),aL h.aj fun g hg=>hall g (.inl (by rw [uZ]; simp [hg])) (nw g (.inl (by simp [hg]))),aL h.L9 fun g hg=>hall g (.inl (by rw [uZ]; simp [hg])) (nw g (.inl (by simp [hg]))),aL h.ag fun g hg=>hall g (.inl (by rw [uZ]; simp [hg])) (nw g (.inl (by simp [hg]))),aL h.ae fun g hg=>hall g (.inl (by rw [uZ]; simp [hg])) (nw g (.inl (by simp [hg]))),(by show (W.setCell _ _).ownsRow _ _ _ (.slice _ (List.set _ _ _).length _) (List.set _ _ _).length _; rw [LI]; exact h1),fun z hz=>(h.eI z hz).same fun g hg=>hall g (.inl (by rw [uZ]; simp only [Kg]; exact .inl (.inr (.inl (dP.2 ⟨z,hz,hg⟩))))) (nw g (.inl (by simp only [Kg]; exact .inr (.inl (dP.2 ⟨z,hz,hg⟩))))),?_,?_,hnd⟩,⟨hb.os,hb.tape,hb.output,by rw [ja]; exact hb.size,fun g hg hm=>(hs g fun e=>hm (e ▸ hin gs (.inl hgP))).trans (hb.same g hg fun hx=>hm (by rw [e1]; simp only [Kg]; exact .inr (.inl ((hkx g).1 hx))))⟩,fun g hg=> ?_⟩
 ·intro z hz
  exact (h.eE z hz).same fun g hg=>hall g (.inl (by rw [uZ]; simp only [Kg]; exact .inl (.inr (.inr (.inr (.inr (.inr (.inr (.inl (dP.2 ⟨z,hz,hg⟩)))))))))) (nw g (.inl (by simp only [Kg]; exact .inr (.inr (.inr (.inr (.inr (.inr (dP.2 ⟨z,hz,hg⟩)))))))))
 ·intro z hz
  rw [hset] at hz;rcases Kg.1 hz with hz | hz
  ·exact (h.eR z (RK hz)).same fun g hg=>hall g (.inl (by rw [uZ]; exact Ly _ (dP.2 ⟨z,hz,hg⟩))) (nw g (.inr (by exact dP.2 ⟨z,RK hz,hg⟩)))
  ·rcases Kt.1 hz with rfl | hz
   ·show (W.setCell _ _).ownsRow base _ 1 (.slice a l.length c) l.length (bT.flat l)
    exact aL ho fun g hg=>hs g fun e=>by
     rcases hf g hg with h7 | h7
     ·exact hP gs (.inl hgP) (e ▸ h7)
     ·have:=(h.lt gs (hin gs (.inl hgP))).2; omega
   ·exact (h.eR z (RL hz)).same fun g hg=>hall g (.inr (by rw [IQ]; exact dP.2 ⟨z,hz,hg⟩)) (nw g (.inr (by exact dP.2 ⟨z,RL hz,hg⟩)))
 ·rw [e2] at hg
  rcases Kg.1 hg with hg | hg
  ·exact .inl (hin g (.inl hg))
  ·rcases Kg.1 hg with hg | hg
   ·exact (hf g hg).imp_left fun h7=>by rw [e1]; simp only [Kg]; exact .inr (.inl ((hkx g).1 h7))
   ·exact .inl (hin g (.inr hg))
end
end
section
open Go.RowKit Go.Maps
attribute [local go_sem ↓] Kc Kd
def kd.put (k:kd) (n:Nat) (p:aE):kd:= { k with parts:=k.parts.set n p }
def ZG:kd:=⟨0,0,[],[],[]⟩
def KRes (w:World) (r:Option kd) (e:Ending) (w':World):Prop:= ∃ q:eA,e= .returned (.tuple #[.agg q.row,.bool r.isSome])∧gp w' w.heap.size q∧q.pure=r.getD ZG∧Below w.heap.size w w'
theorem Zv {w w':World} {r:Option kd} (h:r=none) (hb:Below w.heap.size w w'):KRes w r (.returned (.tuple #[.agg T9,.bool false])) w':=by
 subst h;exact ⟨⟨0,0,[],none,0,[],none,0,[],none,0⟩,rfl,⟨Ke _ _ _ _,Ke _ _ _ _,Ke _ _ _ _,(fun p hp=>by cases hp),by simp [blk]⟩,rfl,hb⟩
section
variable {ops:Array Oper} {Q:Exit→Act→World→Prop} {o:Oper} {rest:List Oper} {a:Act} {w:World} {old:Array Value} {Zb:Func} {R:Ending→World→Prop} {p u:Tmp}
theorem stK (n m:Nat) {g:Nat} (cs:Array Value) (hg:w.heap[g]? =some (.cells old 37 (0,0))) (h:wpList J3 ops Q rest (a.put o.dst undef) (w.setRow g cs)) (hgd:o.guard=none:=by exact rfl) (ho:o.op= .store 37 (.tmp n) (.tmp m):=by exact rfl)
  (hx:a.eval (.tmp n)= .pointer (some ⟨g,0,none⟩):=by exact rfl) (hy:a.eval (.tmp m)= .agg cs:=by exact rfl) (hi:(Tryz.prog.info? 37).map (·.size)=some cs.size:=by kernel_rfl) (hs:old.size=cs.size:=by exact rfl) (h1:cs.all (·.oneCell')=true:=by kernel_rfl):wpList J3 ops Q (o :: rest) a w:=
 wpList_store_row hgd 37 (.tmp n) (.tmp m) ho g _ old cs hx hy hg hi hs h1 h
theorem aaf (hr:Zb.results= #[.cell p 37,.tmp u]) {g:Nat} {cs:Array Value} (v:Value) (hg:w.heap[g]? =some (.cells old 37 (0,0))) (h:R (.returned (.tuple #[.agg cs,v])) (w.setRow g cs)) (hp:a.tmps.getD p undef= .pointer (some ⟨g,0,none⟩):=by rfl) (hv:a.tmps.getD u undef=v:=by exact rfl) (hd:a.defers= [] :=by exact rfl)
  (hi:(Tryz.prog.info? 37).map (·.size)=some cs.size:=by kernel_rfl):bodyPost J3 Zb R .ret a (w.setRow g cs):=
 bodyPost_ret (v:= .tuple #[.agg cs,v]) (by rw [← hv]; exact bL hr _ _ g _ _ _ _ hp (setRow_heap _ _ _ _ _ _ hg) Tryz.underlying37 rfl hi) hd h
end
theorem Zz {w:World} {base n cap:Nat} {a:Option Addr} {l:List af} {x:af} (y:af) (h:w.ownsRow base 48 8 (.slice a l.length cap) l.length (kp.flat l)) (hx:l[n]? =some x):
  ∃ g,a=some ⟨g,0,none⟩∧base≤g∧g < w.heap.size∧w.there g (n * 8) 8∧(bn w g (n * 8) (kp.vals y)).ownsRow base 48 8 (.slice a l.length cap) l.length (kp.flat (l.set n y)):=by
 have hn:n < l.length:=(Lj.1 hx).1;obtain ⟨g,rfl,hrow⟩:=bl.fX (K:=kp) h (by omega);have hg:=hrow.lt;have hset:l.set n y=l.take n ++ y :: l.drop (n+1):=by rw [RJ,if_pos hn]
 have hl:(l.take n).length=n:=by rw [Lk]; omega
 have hbase:base≤g:=by obtain ⟨cur,-,hb,-⟩:=hrow; exact hb
 refine ⟨g,rfl,hbase,hg,fun r hr=>⟨by have h5:=(hrow.cell hx hr).1; rw [show n * 8+r=n * kp.n+r from rfl,h5,Kz (by show r < 8; exact hr)]; rfl,(hrow.cell hx hr).2⟩,?_⟩;rw [kL hx] at hrow;have h5:=bl.part (K:=kp) (x:=x) (y:=y) (j:=0) (vs:=kp.vals y) hrow (by show 0+8≤8; omega) (fun r _=>by rw [Li]) (fun r hr h6=>absurd ⟨Ky _,by show r < 0+8; have:r < 8:=hr; omega⟩ h6);rw [hl,← hset] at h5;have h6:=h5.owns;rw [LI] at h6;exact h6
def eA.put (k:eA) (n:Nat) (p:af) (a:Option Addr) (c:Nat):eA:= { k with parts:=k.parts.set n p,qn:=a,sa:=c }
theorem Hl {l:List af} {n:Nat} {p:af} {g:Nat} (h:g∈(l.set n p).flatMap af.Mc):g∈l.flatMap af.Mc∨g∈p.Mc:=by
 obtain ⟨q,hq,hg⟩:=Rt.1 h;rcases PO hq with h5 | h5
 ·exact .inl (Rt.2 ⟨q,h5,hg⟩)
 ·rw [h5] at hg; exact .inr hg
theorem Z9: ∀ {l:List af} {n:Nat} {p:af},(l.flatMap af.Mc).Nodup→p.Mc.Nodup→(∀ g∈p.Mc,g∉l.flatMap af.Mc)→((l.set n p).flatMap af.Mc).Nodup
 | [],n,p,h,_,_=>by simp
 | x :: r,0,p,h,hp,hd=>by
  simp only [List.set_cons_zero,List.flatMap_cons] at h hd ⊢;have h1:=Kf.1 h;exact Kf.2 ⟨hp,h1.2.1,fun a ha b hb e=>hd a ha (Ly _ (by rw [e]; exact hb))⟩
 | x :: r,n+1,p,h,hp,hd=>by
  simp only [List.set_cons_succ,List.flatMap_cons] at h hd ⊢;have h1:=Kf.1 h;refine Kf.2 ⟨h1.1,Z9 h1.2.1 hp (fun g hg hm=>hd g hg (Ly _ hm)),fun a ha b hb e=> ?_⟩;subst e;rcases Hl hb with h5 | h5
  ·exact h1.2.2 a ha a h5 rfl
  ·exact hd a h5 (Lz _ ha)
theorem gp.put {w:World} {base n g:Nat} {k:eA} {x y:af} (h:gp w base k) (hx:k.parts[n]? =some x) (ha:k.qn=some ⟨g,0,none⟩) (hy:ap w base y) (hd: ∀ b∈y.Mc,b∉k.Mc):
  gp (bn w g (n * 8) (kp.vals y)) base (k.put n y k.qn k.sa):=by
 obtain ⟨g',ha',hb,hl,-,hown⟩:=Zz y h.parts hx;rw [ha] at ha';cases ha';have hap:=h.apart;have bR:g∈blk k.qn:=by rw [ha]; simp [blk]
 have hot: ∀ q,q≠g→(bn w g (n * 8) (kp.vals y)).heap[q]? =w.heap[q]? :=fun q hq=>de _ hq
 have hg: ∀ p∈k.parts,∀ q∈p.Mc,q≠g:=fun p hp q hq e=>(hap.2.1 g bR).2 (Rt.2 ⟨p,hp,e ▸ hq⟩)
 have hyg: ∀ q∈y.Mc,q≠g:=fun q hq e=>hd q hq (by subst e; exact Ly _ (Lz _ bR))
 have hnd:=h.nodup;have n1:=Kf.1 hnd;have n2:=Kf.1 n1.2.1;have n3:=Kf.1 n2.2.1;have hdf: ∀ b∈y.Mc,b∉k.parts.flatMap af.Mc:=fun b hb hm=>hd b hb (Ly _ (Ly _ (Ly _ hm)))
 refine ⟨aL h.fn fun q hq=>hot q (fun e=>(hap.1 q hq).1 (e ▸ bR)),by simpa [eA.put] using hown,aL h.eC fun q hq=>hot q (fun e=>(hap.2.1 g bR).1 (e ▸ hq)),fun p hp=> ?_,?_⟩
 ·rcases PO hp with h5 | h5
  ·exact (h.mine p h5).same fun q hq=>hot q (hg p h5 q hq)
  ·rw [h5]
   exact hy.same fun q hq=>hot q (hyg q hq)
 ·show (blk k.vb ++ (blk k.qn ++ (blk k.qi ++ (k.parts.set n y).flatMap af.Mc))).Nodup
  refine Kf.2 ⟨n1.1,Kf.2 ⟨n2.1,Kf.2 ⟨n3.1,Z9 n3.2.1 hy.nodup hdf,fun a ha b hb e=> ?_⟩,fun a ha b hb e=> ?_⟩,fun a ha b hb e=> ?_⟩
  ·subst e
   rcases Hl hb with h5 | h5
   ·exact n3.2.2 a ha a h5 rfl
   ·exact hd a h5 (Ly _ (Ly _ (Lz _ ha)))
  ·subst e
   rcases Kg.1 hb with h5 | h5
   ·exact n2.2.2 a ha a (Lz _ h5) rfl
   ·rcases Hl h5 with h5 | h5
    ·exact n2.2.2 a ha a (Ly _ h5) rfl
    ·exact hd a h5 (Ly _ (Lz _ ha))
  ·subst e
   rcases Kg.1 hb with h5 | h5
   ·exact n1.2.2 a ha a (Lz _ h5) rfl
   ·rcases Kg.1 h5 with h5 | h5
    ·exact n1.2.2 a ha a (Ly _ (Lz _ h5)) rfl
    ·rcases Hl h5 with h5 | h5
     ·exact n1.2.2 a ha a (Ly _ (Ly _ h5)) rfl
     ·exact hd a h5 (Lz _ ha)
theorem gp.same {w w':World} {base:Nat} {k:eA} (h:gp w base k) (hs: ∀ g∈k.Mc,w'.heap[g]? =w.heap[g]?):gp w' base k:=
 ⟨aL h.fn fun g hg=>hs g (Lz _ hg),aL h.parts fun g hg=>hs g (Ly _ (Lz _ hg)),aL h.eC fun g hg=>hs g (Ly _ (Ly _ (Lz _ hg))),fun p hp=>(h.mine p hp).same fun g hg=>hs g (Ly _ (Ly _ (Ly _ (Rt.2 ⟨p,hp,hg⟩)))),h.nodup⟩
theorem gp.lower {w:World} {base base':Nat} {k:eA} (h:gp w base k) (hb:base'≤base):gp w base' k:=
 ⟨cq h.fn hb,cq h.parts hb,cq h.eC hb,fun p hp=>(h.mine p hp).lower hb,h.nodup⟩
structure YW (w:World) (k:eA) (p:af) (W:World):Prop where
 ks:dr w w.heap.size k W
 pb:av W (w.heap.size+1) p
 pat:af.At W p
 ret:W.heap[w.heap.size+2]? =some (.cells T9 37 (0,0))
theorem YW.below {w W W2:World} {k:eA} {p:af} (h:YW w k p W) (hb:Below W.heap.size W W2):YW w k p W2:=⟨h.ks.below hb,h.pb.below hb,h.pat.below hb,(hb.block _ (J2.1 h.ret).1).trans h.ret⟩
theorem YW.first {w:World} {k:eA} {p:af} (h:eA.At w k) (hp:af.At w p):YW w k p (((w.alloc (.cells k.row 37)).alloc (.cells p.cells 48)).alloc (.cells T9 37)):=by
 have b1:Below w.heap.size w (w.alloc (.cells k.row 37)):=(Kp _ _).alloc (Ki _) _;have b2:Below (w.alloc (.cells k.row 37)).heap.size (w.alloc (.cells k.row 37)) ((w.alloc (.cells k.row 37)).alloc (.cells p.cells 48)):=(Kp _ _).alloc (Ki _) _;have b3:Below ((w.alloc (.cells k.row 37)).alloc (.cells p.cells 48)).heap.size ((w.alloc (.cells k.row 37)).alloc (.cells p.cells 48)) (((w.alloc (.cells k.row 37)).alloc (.cells p.cells 48)).alloc (.cells T9 37)):=(Kp _ _).alloc (Ki _) _;have hx:av ((w.alloc (.cells k.row 37)).alloc (.cells p.cells 48)) (w.heap.size+1) p:=heap_alloc2_new _ _ _;refine ⟨((dr.first h).below b2).below b3,hx.below b3,((hp.below b1).below b2).below b3,?_⟩;have h5:=Kj ((w.alloc (.cells k.row 37)).alloc (.cells p.cells 48)) (.cells T9 37);simpa using h5
end
section
open Go.RowKit Go.Maps
theorem cJ.drew {w:World} {base o:Nat} {S:aZ} (h:cJ w base o S):cJ w.drew base o S:=
 ⟨h.opn,h.L8.same fun _ _=>rfl,h.aj.same fun _ _=>rfl,h.L9.same fun _ _=>rfl,h.ag.same fun _ _=>rfl,h.ae.same fun _ _=>rfl,h.ai.same fun _ _=>rfl,fun p hp=>(h.eI p hp).same fun _ _=>rfl,fun p hp=>(h.eE p hp).same fun _ _=>rfl,fun p hp=>(h.eR p hp).same fun _ _=>rfl,h.nodup,h.low⟩
theorem ab9 {α:Type} {num:α→Int} {id:Int} : ∀ {l:List α} {i n:Nat},place (l.map num) id i=((i+n:Nat):Int)→ ∀ y∈l.take n,¬ num y=id
 | [],_,_,_,y,hy=>by simp at hy
 | x :: r,i,0,_,y,hy=>by simp at hy
 | x :: r,i,n+1,h,y,hy=>by
  simp only [List.map_cons,place] at h;by_cases hx:num x=id
  ·rw [if_pos hx] at h
   omega
  ·rw [if_neg hx] at h
   rw [List.take_succ_cons] at hy;rcases Kt.1 hy with rfl | hy
   ·exact hx
   ·exact ab9 (i:=i+1) (by rw [h]; congr 1; omega) y hy
section
variable {l:List af} {part port:Int}
theorem adt {s:dS} (h:endP (l.map (·.pure)) part port=some s): ∃ (n:Nat) (q:af) (m:Nat) (x:aM),place (l.map (·.id)) part 0=(n:Int)∧l[n]? =some q∧q.id=part∧n0 l part port=(m:Int)∧place (q.ai.map (·.id)) port 0=(m:Int)∧q.ai[m]? =some x∧x.todS=s∧x.id=port:=by
 have e:hP (·.id) part (l.map (·.pure))=(hP (·.id) part l).map (·.pure):=by unfold hP; rw [List.find?_map]; rfl
 unfold endP at h;rw [e] at h;unfold n0;rcases ua (num:=fun x:af=>x.id) part l 0 with ⟨-,e2⟩ | ⟨n,p,e1,hp,hid,e2⟩
 ·rw [e2] at h; cases h
 ·rw [e2] at h ⊢
  have h':hP (·.id) port p.pure.ai=some s:=h;have e4:hP (·.id) port p.pure.ai=(hP (·.id) port p.ai).map (·.todS):=by unfold hP af.pure; rw [List.find?_map]; rfl
  rw [e4] at h';rcases ua (num:=fun x:aM=>x.id) port p.ai 0 with ⟨-,h3⟩ | ⟨m,x,h1,h2,hi,h3⟩
  ·rw [h3] at h'; cases h'
  ·rw [h3] at h'
   rw [Li] at e1 h1;exact ⟨n,p,m,x,e1,hp,hid,h1,h1,h2,KC h',hi⟩
def ade (x:aM) (its:List ByteArray) (a:Option Addr) (c:Nat):aM:= { x with Ma:=its,ak:=a,aq:=c }
def abS (q:af) (m:Nat) (x:aM) (its:List ByteArray) (a:Option Addr) (c:Nat):af:= { q with ai:=q.ai.set m (ade x its a c) }
theorem acr {n m:Nat} {q:af} {x:aM} {its:List ByteArray} {a:Option Addr} {c:Nat} (hn:place (l.map (·.id)) part 0=(n:Int)) (hq:l[n]? =some q) (hid:q.id=part) (hm:place (q.ai.map (·.id)) port 0=(m:Int)) (hx:q.ai[m]? =some x) (hxi:x.id=port):
  (l.set n (abS q m x its a c)).map (·.pure)=abK part port its (l.map (·.pure)):=by
 have e1:abK part port its (l.map (·.pure))=(l.map (·.pure)).set n (ab7 port its q.pure):=acp (by rw [Kk,hq]; rfl) (decide_eq_true hid) fun y hy=>by
  rw [← List.map_take] at hy;obtain ⟨z,hz,rfl⟩:=Lr.1 hy;exact decide_eq_false (ab9 (i:=0) (by rw [Li]; exact hn) z hz)
 have e2:ab7 port its q.pure=(abS q m x its a c).pure:=by
  have e3:abP (fun y:dS=>decide (y.id=port)) (abZ its) q.pure.ai=q.pure.ai.set m (abZ its x.todS):=acp (by show (q.ai.map (·.todS))[m]? =_; rw [Kk,hx]; rfl) (decide_eq_true hxi) fun y hy=>by
   have hy':y∈(q.ai.map (·.todS)).take m:=hy;rw [← List.map_take] at hy';obtain ⟨z,hz,rfl⟩:=Lr.1 hy';exact decide_eq_false (ab9 (num:=fun z:aM=>z.id) (i:=0) (by rw [Li]; exact hm) z hz)
  unfold ab7;rw [e3];simp [abS,af.pure,PN,ade,abZ]
 rw [e1,e2,PN]
end
theorem ac1 {q:af} {m:Nat} {x:aM} {its:List ByteArray} {a:Option Addr} {c:Nat} :(abS q m x its a c).cells=q.cells:=by
 simp [af.cells,abS]
theorem acz {P Q Q' R:List Nat} (h:(P ++ (Q ++ R)).Nodup) (hq:Q'.Nodup) (hd: ∀ g∈Q',g∈Q∨(g∉P∧g∉R)):(P ++ (Q' ++ R)).Nodup:=by
 have h1:=Kf.1 h;have h2:=Kf.1 h1.2.1;refine Kf.2 ⟨h1.1,Kf.2 ⟨hq,h2.2.1,fun a ha b hb e=> ?_⟩,fun a ha b hb e=> ?_⟩
 ·subst e
  rcases hd a ha with h5 | h5
  ·exact h2.2.2 a h5 a hb rfl
  ·exact h5.2 hb
 ·subst e
  rcases Kg.1 hb with hb | hb
  ·rcases hd a hb with h5 | h5
   ·exact h1.2.2 a ha a (Lz _ h5) rfl
   ·exact h5.1 ha
  ·exact h1.2.2 a ha a (Ly _ hb) rfl
theorem gp.turnAt {w W:World} {base n:Nat} {k:eA} {q q2:af} (h:gp w base k) (hx:k.parts[n]? =some q) (ht:yr w base q q2 W) (hc:q2.cells=q.cells):
  gp W base { k with parts:=k.parts.set n q2 } ∧(∀ g∈eA.Mc { k with parts:=k.parts.set n q2 },g∈k.Mc∨w.heap.size≤g)∧aI w W k.Mc:=by
 have hn:n < k.parts.length:=(Lj.1 hx).1;have hsp:=kL hx;have hset:k.parts.set n q2=k.parts.take n ++ q2 :: k.parts.drop (n+1):=by rw [RJ,if_pos hn]
 obtain ⟨P,hPx⟩: ∃ P,P=blk k.vb ++ (blk k.qn ++ (blk k.qi ++ (k.parts.take n).flatMap af.Mc)):=⟨_,rfl⟩
 obtain ⟨R,hR⟩: ∃ R,R=(k.parts.drop (n+1)).flatMap af.Mc:=⟨_,rfl⟩
 have e1:k.Mc=P ++ (q.Mc ++ R):=by
  unfold eA.Mc;rw [hPx,hR]
  conv=>lhs; rw [hsp]
  simp [Lm]
 have e2:eA.Mc { k with parts:=k.parts.set n q2 } =P ++ (q2.Mc ++ R):=by
  unfold eA.Mc;rw [hPx,hR];simp only [hset];simp [Lm]
 have hnd:(P ++ (q.Mc ++ R)).Nodup:=by rw [← e1]; exact h.nodup
 have n1:=Kf.1 hnd;have n2:=Kf.1 n1.2.1;have hlt: ∀ g,g∈P∨g∈R→g < w.heap.size∧g∉q.Mc:=fun g hg=>by
  have hm:g∈k.Mc:=by
   rw [e1];rcases hg with hg | hg
   ·exact Lz _ hg
   ·exact Ly _ (Ly _ hg)
  refine ⟨(h.lt hm).2,fun hq=> ?_⟩;rcases hg with hg | hg
  ·exact n1.2.2 g hg g (Lz _ hq) rfl
  ·exact n2.2.2 g hq g hg rfl
 have hs: ∀ g,g∈P∨g∈R→W.heap[g]? =w.heap[g]? :=fun g hg=>ht.kept.same g (hlt g hg).1 (hlt g hg).2
 have inP: ∀ g,g∈blk k.vb∨g∈blk k.qn∨g∈blk k.qi∨g∈(k.parts.take n).flatMap af.Mc→g∈P:=fun g hg=>by rw [hPx]; simp only [Kg]; exact hg
 have abF:kp.flat (k.parts.set n q2)=kp.flat k.parts:=by
  rw [hset]
  conv=>rhs; rw [hsp]
  have:kp.vals q2=kp.vals q:=by show q2.cells.toList=q.cells.toList; rw [hc]
  simp [Kind.flat,this]
 refine ⟨⟨aL h.fn fun g hg=>hs g (.inl (inP g (.inl hg))),?_,aL h.eC fun g hg=>hs g (.inl (inP g (.inr (.inr (.inl hg))))),fun p hp=> ?_,?_⟩,fun g hg=> ?_,ht.kept.mono fun g hg=>by rw [e1]; exact Ly _ (Lz _ hg)⟩
 ·show W.ownsRow base _ 8 (.slice k.qn (k.parts.set n q2).length k.sa) (k.parts.set n q2).length (kp.flat (k.parts.set n q2))
  rw [LI,abF];exact aL h.parts fun g hg=>hs g (.inl (inP g (.inr (.inl hg))))
 ·have hp':p∈k.parts.take n ++ q2 :: k.parts.drop (n+1):=by rw [← hset]; exact hp
  rcases Kg.1 hp' with h5 | h5
  ·exact (h.mine p (RK h5)).same fun g hg=>hs g (.inl (inP g (.inr (.inr (.inr (Rt.2 ⟨p,h5,hg⟩))))))
  ·rcases Kt.1 h5 with rfl | h5
   ·exact ht.own
   ·exact (h.mine p (RL h5)).same fun g hg=>hs g (.inr (by rw [hR]; exact Rt.2 ⟨p,h5,hg⟩))
 ·show (eA.Mc { k with parts:=k.parts.set n q2 }).Nodup
  rw [e2];refine acz hnd ht.own.nodup fun g hg=> ?_
  rcases ht.far g hg with h5 | h5
  ·exact .inl h5
  ·exact .inr ⟨fun hp=>by have:=(hlt g (.inl hp)).1; omega,fun hp=>by have:=(hlt g (.inr hp)).1; omega⟩
 ·rw [e2] at hg
  rw [e1];simp only [Kg] at hg ⊢;rcases hg with hg | hg | hg
  ·exact .inl (.inl hg)
  ·exact (ht.far g hg).imp_left fun h5=> .inr (.inl h5)
  ·exact .inl (.inr (.inr hg))
end
section
open Go.RowKit Go.Maps
attribute [local go_sem ↓] Kc Kd
theorem acV (ad:Addr) (l:List ByteArray) (cap:Nat) (w:World) (hl:l.length≤1048576) (hr:Row w (some ad) (bT.flat l)):
  Calls J3 157 #[.slice (some ad) l.length cap] w fun e w'=> ∃ (a':Option Addr) (c':Nat),e= .returned (.slice a' l.length c')∧w'.ownsRow w.heap.size 9 1 (.slice a' l.length c') l.length (bT.flat l)∧Below w.heap.size w w':=by
 have hz:Below w.heap.size w (w.alloc (.cells #[] 9)):=(Kp _ _).alloc (Ki _) _;obtain ⟨a',c',w',hap,ho,hg,-⟩:=tO (w.alloc (.cells #[] 9)) w.heap.size w.heap.size (Kj _ _) (Ki _) (some ad) l cap (hr.below hz) hl hz.size;have HN:Hid (w'.ownsRow w.heap.size 9 1 (.slice a' l.length c') l.length (bT.flat l)∧Below w.heap.size w w'):=⟨ho,hz.grown hg hz.size (fun q hq=>by cases hq; exact Ki _)⟩
 clear ho hg hz hr;have hq:Sem.run J3 (binOp .eql 83 (.slice (some ad) l.length cap) (.slice none 0 0)) w= .ok (.bool false) w:=by first | kernel_rfl | rfl
 go_enter Tryz.func157,Tryz.ntmps157
 go_wp2_with (at_builtin; refine br _ rfl _ _ 83 rfl _ _ _ _ rfl rfl hap ?_);go_ret;exact ⟨a',c',rfl,HN.I.1,HN.I.2⟩
theorem ac8 {w:World} {base g n cap off:Nat} {e:TypeId} {xs vs:List Value} (h:w.ownsRow base e 1 (.slice (some ⟨g,0,none⟩) n cap) n xs) (ho:n≤off):(bn w g off vs).ownsRow base e 1 (.slice (some ⟨g,0,none⟩) n cap) n xs:=by
 refine ⟨h.1,?_⟩;rcases h.2 with ⟨h1,-⟩ | ⟨g',cap',cur,h1,h2,h3,h4,h5,h6,h7⟩
 ·cases h1
 ·simp only [LD,LF,Addr.mk.injEq,and_true,true_and] at h1
  obtain ⟨rfl,rfl⟩:=h1;refine .inr ⟨g,cap,iD cur off vs,rfl,h2,jc vs h3,h4,h5,by rw [kM]; exact h6,?_⟩;rw [← h7];apply List.ext_getElem?;intro j;rw [QW,QW]
  split
  ·rw [QJ,QJ,lL _ _ _ _ (by omega)]
  ·rfl
theorem acR {w:World} {base g n cap:Nat} {e:TypeId} {xs:List Value} (h:w.ownsRow base e 1 (.slice (some ⟨g,0,none⟩) n cap) n xs) {j:Nat} (hj:j < cap):(w.cell? ⟨g,j,none⟩).isSome=true∧w.frozen? ⟨g,j,none⟩=false:=by
 rcases h.2 with ⟨h1,-⟩ | ⟨g',cap',cur,h1,h2,h3,h4,h5,h6,h7⟩
 ·cases h1
 ·simp only [LD,LF,Addr.mk.injEq,and_true,true_and] at h1
  obtain ⟨rfl,rfl⟩:=h1
  have:j < cur.size:=by omega
  simp [World.cell?,World.frozen?,h3,this]
theorem adk {w:World} {base g n cap:Nat} {e:TypeId} {xs:List Value} (h:w.ownsRow base e 1 (.slice (some ⟨g,0,none⟩) n cap) n xs):w.ownsRow base e 1 (.slice (some ⟨g,0,none⟩) 0 cap) 0 [] :=by
 rcases h.2 with ⟨h1,-⟩ | ⟨g',cap',cur,h1,h2,h3,h4,h5,h6,h7⟩
 ·cases h1
 ·simp only [LD,LF,Addr.mk.injEq,and_true,true_and] at h1
  obtain ⟨rfl,rfl⟩:=h1;exact ⟨rfl,.inr ⟨g,cap,cur,rfl,h2,h3,Ky _,h5,h6,by simp⟩⟩
theorem acW (a:Option Addr) (n cap:Nat) (w:World) (hn:n≤cap) (hc:cap≤maxLen) (hz:a=none→n=0∧cap=0):
  Calls J3 158 #[.slice a n cap,.int .i64 0,.int .i64 0] w fun e w'=>e= .returned (.slice a n cap)∧w'=w:=by
 unfold maxLen at hc;cases a with
 | none=>
  obtain ⟨rfl,rfl⟩:=hz rfl;clear hz hn hc
  go_enter Tryz.func158,Tryz.ntmps158
  go_wp2;go_ret;exact ⟨rfl,rfl⟩
 | some ad=>
  clear hz;have h1:(n:Int)≤(cap:Int):=by omega
  have h2:(0:Int)≤(n:Int):=by omega
  go_enter Tryz.func158,Tryz.ntmps158
  go_wp2;go_ret;exact ⟨rfl,rfl⟩
theorem ac7 (g cap N base:Nat) (l:List ByteArray) (w:World) (h0:0 < N) (hN:N≤l.length) (hl:l.length≤1000) (ho:w.ownsRow base 9 1 (.slice (some ⟨g,0,none⟩) l.length cap) l.length (bT.flat l)):
  Calls J3 158 #[.slice (some ⟨g,0,none⟩) l.length cap,.int .i64 0,.int .i64 N] w fun e w'=>e= .returned (.slice (some ⟨g,0,none⟩) (l.length - N) cap)∧w'.ownsRow base 9 1 (.slice (some ⟨g,0,none⟩) (l.length - N) cap) (l.length - N) (bT.flat (l.drop N))∧aI w w' [g] :=by
 have hcap:l.length≤cap∧cap≤maxLen:=by
  rcases ho.2 with ⟨h1,-⟩ | ⟨g',cap',cur,h1,h2,h3,h4,h5,h6,h7⟩
  ·cases h1
  ·simp only [LD,LF,Addr.mk.injEq,and_true,true_and] at h1
   obtain ⟨rfl,rfl⟩:=h1;exact ⟨h4,h5⟩
 obtain ⟨A,hA,hsrc⟩: ∃ A:Addr,(if cap=N then some (⟨g,0,none⟩:Addr) else some ⟨g,N,none⟩)=some A∧ ∀ j u,(bT.flat (l.drop N))[j]? =some u→w.drew.cell? (A.add j)=some u:=by
  have h1:=qK (K:=bT) (k:=N) (c:=cap) hcap.1 (nP ho);have e:(if cap=N then some (⟨g,0,none⟩:Addr) else Option.map (fun x:Addr=>x.add (N * bT.n)) (some (⟨g,0,none⟩:Addr)))=(if cap=N then some (⟨g,0,none⟩:Addr) else some ⟨g,N,none⟩):=by
   split
   ·rfl
   ·show some ((⟨g,0,none⟩:Addr).add (N * 1))=_
    rw [qZ,Nat.mul_one]
  rw [e] at h1;refine ⟨if cap=N then ⟨g,0,none⟩ else ⟨g,N,none⟩,by split <;> rfl,fun j u hu=> ?_⟩;obtain ⟨ad,h2,h3⟩:=h1 j u hu;have h4:(if cap=N then (⟨g,0,none⟩:Addr) else ⟨g,N,none⟩)=ad:=by
   split at h2 <;> rename_i hh
   ·rw [if_pos hh]; exact KC h2
   ·rw [if_neg hh]; exact KC h2
  rw [h4];exact h3
 obtain ⟨i,hi,e⟩:=Kw.1 zD;simp only [Kx] at e;have hld:(l.drop N).length=l.length - N:=List.length_drop;obtain ⟨w1,hr1,ho1,CT⟩:=run_append_fits (P:=J3) w.drew base 83 83 9 i 1 Tryz.underlying83 hi e.2.1 g 0 cap [] (aL (adk ho) fun _ _=>rfl) A (l.length - N) (cap - N) (bT.flat (l.drop N)) (by rw [bT.dM,hld]; rfl) hsrc yK (by omega);simp only [Li,List.nil_append] at hr1 ho1;have hcl: ∀ ty,(Builtin.clear_ #[83] ty #[.slice (some ⟨g,l.length - N,none⟩) (l.length - (l.length - N)) (cap - (l.length - N))]).run J3 w1= .ok (.tuple #[]) (w1.setCells g (l.length - N) (List.replicate (l.length - (l.length - N)) (.string ⟨#[]⟩))):=fun ty=>
  Lib.run_clear_slice w1 _ _ ty _ Tryz.underlying83 Tryz.zeroValue9 rfl rfl g (l.length - N) _ _ (by omega) (fun j hj=>(acR ho1 (by omega)).1) (fun j hj=>(acR ho1 (by omega)).2)
 have HE:Hid ((w1.setCells g (l.length - N) (List.replicate (l.length - (l.length - N)) (.string ⟨#[]⟩))).ownsRow base 9 1 (.slice (some ⟨g,0,none⟩) (l.length - N) cap) (l.length - N) (bT.flat (l.drop N))∧aI w (w1.setCells g (l.length - N) (List.replicate (l.length - (l.length - N)) (.string ⟨#[]⟩))) [g]):=by
  rw [iL];refine ⟨ac8 ho1 (Ki _),?_⟩;have h5:aI w w1 [g] :=⟨CT.os,CT.tape,CT.output,CT.size,fun k hk hn=>CT.block k hk fun ee=>hn (by simp at ee; simp [ee])⟩
  exact h5.trans (aI.set _ (by simp))
 have HR:=aA hr1;have n1:(N:Int)≤(l.length:Int):=by omega
 have n2:(l.length:Int)≤(cap:Int):=by omega
 have n3:(N:Int)≤(cap:Int):=by omega
 have n4: ¬ (0:Int)=(N:Int):=by omega
 have n5:(0:Int)≤(N:Int):=by omega
 have n6:N≤cap:=by omega
 have n7:l.length≤cap:=hcap.1;have n8:(cap:Int)≤9223372036854775807:=by have:=hcap.2; unfold maxLen at this; omega
 have n9: ¬ 0=N:=by omega
 clear hsrc ho1 CT ho hr1 e hi hcap hld
 go_enter Tryz.func158,Tryz.ntmps158
 go_upto_region 5 with fail;refine wp_region_held_drew (S:=fun _=>True) (by kernel_rfl) trivial (fun _=> ?_);refine tt 0 trivial ?_;refine tt 1 trivial ?_;refine tt 2 trivial ?_;refine tt 3 trivial ?_;refine tt 4 trivial ?_;refine tt 5 trivial ?_
 try simp only [pt,sb,s0,s1]
 refine L7 6 (fun Q hQ=> ?_);refine cM _ _ 83 rfl _ _ _ w1 rfl rfl HR.I ?_;refine hQ.out _ _ trivial (fun _=> ?_);clear hQ Q HR
 try simp only [pt,sb,s0,s1]
 refine tt 7 trivial ?_;refine wpAnyH_done (by kernel_rfl) ?_ _;have n10:((l.length - N:Nat):Int)≤(l.length:Int):=by omega
 have n11:(0:Int)≤((l.length - N:Nat):Int):=by omega
 have n12: ¬ cap=l.length - N:=by omega
 go_wp2;go_ret;exact ⟨rfl,HE.I⟩
theorem adJ (a:Option Addr) (cap N base:Nat) (l:List ByteArray) (w:World) (hN:N≤l.length) (hl:l.length≤1000) (ho:w.ownsRow base 9 1 (.slice a l.length cap) l.length (bT.flat l)):
  Calls J3 158 #[.slice a l.length cap,.int .i64 0,.int .i64 N] w fun e w'=>e= .returned (.slice a (l.length - N) cap)∧w'.ownsRow base 9 1 (.slice a (l.length - N) cap) (l.length - N) (bT.flat (l.drop N))∧aI w w' (blk a):=by
 by_cases h0:N=0
 ·subst h0
  have hc:l.length≤cap∧cap≤maxLen∧(a=none→l.length=0∧cap=0):=by
   rcases ho.2 with ⟨h1,h2⟩ | ⟨g',cap',cur,h1,h2,h3,h4,h5,h6,h7⟩
   ·simp only [LD] at h1
    exact ⟨by omega,by rw [h1.2.2]; exact Ky _,fun _=>⟨h2,h1.2.2⟩⟩
   ·simp only [LD] at h1
    rw [h1.2.2];exact ⟨h4,h5,fun e=>by rw [e] at h1; cases h1.1⟩
  refine (acW a l.length cap w hc.1 hc.2.1 hc.2.2).mono ?_;rintro e w' ⟨rfl,rfl⟩;exact ⟨by rw [Nat.sub_zero],by rw [Nat.sub_zero,List.drop_zero]; exact ho,aI.refl _ _⟩
 ·rcases ho.2 with ⟨h1,h2⟩ | ⟨g',cap',cur,h1,h2,h3,h4,h5,h6,h7⟩
  ·omega
  ·simp only [LD] at h1
   obtain ⟨rfl,-,rfl⟩:=h1;exact (ac7 g' cap N base l w (by omega) hN hl ho).mono fun e w' h=>⟨h.1,h.2.1,h.2.2.mono fun b hb=>by simpa [blk] using hb⟩
end
section
open Go Go.RowKit
def oc (cs:Array Value) (T:TypeId) (X:Nat) (W:World):Prop:=W.heap[X]? =some (.cells cs T (0,0))
section
variable {cs:Array Value} {T:TypeId} {X:Nat} {W W':World} {bs:List Nat}
theorem oc.lt (h:oc cs T X W):X < W.heap.size:=(J2.1 h).1
theorem oc.below (h:oc cs T X W) (hb:Below W.heap.size W W'):oc cs T X W':=(hb.block _ h.lt).trans h
theorem oc.kept (h:oc cs T X W) (hk:aI W W' bs) (hs:X∉bs):oc cs T X W':=(hk.same _ h.lt hs).trans h
end
theorem gs {α : Type} {a : α} {l : List α} {i : Nat} (h : i + 1 < (a :: l).length) : (a :: l)[i + 1]'h = l[i]'(Nat.lt_of_succ_lt_succ h) := rfl
section
variable {p q:af} {w W U V:World} {B X b:Nat} {cs:Array Value} {T:TypeId} {Y:Prop}
end
end
end Go.Proofs.YteidkehoekbcaaaGreat
