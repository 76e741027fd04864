/- What the proof leans on, part 10. -/
import Derived.Test.YteidkehoekbcaaaGreatOwnC9
import Derived.Lib.SliceRun
set_option maxRecDepth 100000
set_option maxHeartbeats 8000000
open Array renaming getElem?_eq_some_iff->J2,getElem?_toList->QJ
open Go renaming heap_alloc_new->Kj,wpAnyH_done->K3,wp_at_succ->Kd,wp_at_zero->Kc,wp_region_held_drew->Kr
open Go.Addr.mk renaming injEq->aeS
open Go.Proofs.Tryz renaming prog->J3,underlying83->adT
open Go.RowKit.Below renaming refl->Kp
open Go.Value.slice renaming injEq->LD
open Go.World renaming ownsRow_nil->Ke
open List renaming append_assoc->Lm,find?_map->aeu,flatMap_cons->aez,getElem?_cons_succ->QC,getElem?_cons_zero->QI,getElem?_eq_getElem->Kz,getElem?_eq_some_iff->Lj,getElem?_map->Kk,getElem?_take->QW,length_append->Lf,length_drop->Ql,length_set->LI,length_take->Lk,map_set->PN,mem_append->Kg,mem_append_left->Lz,mem_append_right->Ly,mem_cons->Kt,mem_flatMap->Rt,mem_map->Lr,mem_of_getElem?->KA,mem_of_mem_drop->RL,mem_of_mem_take->RK,mem_or_eq_of_mem_set->PO,nodup_append->Kf,set_eq_take_append_cons_drop->RJ
open Nat renaming le_refl->Ki,le_trans->LG,zero_add->Li,zero_le->Ky
open Option renaming map_eq_some_iff->Kw
open Option.some renaming inj->KC,injEq->LF
open Prod.mk renaming injEq->Kx

namespace Go.Proofs.YteidkehoekbcaaaGreat
section
open Go.RowKit Go.Maps
structure yr (w:World) (base:Nat) (q q2:af) (W:World):Prop where
 own:ap W base q2
 kept:aI w W q.Mc
 far: ∀ g∈q2.Mc,g∈q.Mc∨w.heap.size≤g
theorem rn {α:Type} {K:Kind α} {T:TypeId} {w:World} {base cap n gs j:Nat} {a:Option Addr} {l:List α} {x y:α} {v:Value} (h:w.ownsRow base T K.n (.slice a l.length cap) l.length (K.flat l)) (hx:l[n]? =some x) (ha:a=some ⟨gs,0,none⟩) (hj:j < K.n) (hv:K.vals y=(K.vals x).set j v):
  (w.setCell ⟨gs,n * K.n+j,none⟩ v).ownsRow base T K.n (.slice a l.length cap) l.length (K.flat (l.set n y))∧aI w (w.setCell ⟨gs,n * K.n+j,none⟩ v) (blk a)∧(∃ u,w.cell? ⟨gs,n * K.n+j,none⟩=some u)∧w.frozen? ⟨gs,n * K.n+j,none⟩=false:=by
 have hn:n < l.length:=(Lj.1 hx).1;obtain ⟨g,hg,hrow⟩:=bl.fX (K:=K) h (by omega);rw [ha] at hg;cases hg;have h7:=hrow.cell hx (r:=j) hj;have hsp:=kL hx;have hset:l.set n y=l.take n ++ y :: l.drop (n+1):=by rw [RJ,if_pos hn]
 have hl:(l.take n).length=n:=by rw [Lk]; omega
 rw [hsp] at hrow;have h5:=bl.part (K:=K) (x:=x) (y:=y) (j:=j) (vs:= [v]) hrow (by simp; omega) (fun r hr=>by simp at hr; subst hr; rw [Nat.add_zero,hv,List.getElem?_set_self (by rw [K.len]; exact hj)]; rfl) (fun r hr hn=>by rw [hv,List.getElem?_set_ne (by simp at hn; omega)]);rw [hl,← hset] at h5;have h6:=h5.owns;rw [LI] at h6;rw [ha];exact ⟨h6,aI.set (vs:= [v]) (by simp [blk]),⟨_,h7.1.trans (Kz (by rw [K.len]; exact hj))⟩,h7.2⟩
theorem uX {P1 P2:List Nat} {a b:Option Nat} (h:(P1 ++ (a.toList ++ P2)).Nodup) (hb: ∀ g,b=some g→g∉P1∧g∉P2):(P1 ++ (b.toList ++ P2)).Nodup:=by
 obtain ⟨h1,h2,h3⟩:=Kf.1 h;obtain ⟨-,h5,-⟩:=Kf.1 h2;refine Kf.2 ⟨h1,Kf.2 ⟨by cases b <;> simp,h5,fun x hx y hy e=> ?_⟩,fun x hx y hy e=> ?_⟩
 ·cases b with
  | none=>simp at hx
  | some g=>simp at hx; subst hx; exact (hb x rfl).2 (e ▸ hy)
 ·rcases Kg.1 hy with hy | hy
  ·cases b with
   | none=>simp at hy
   | some g=>simp at hy; subst hy; exact (hb y rfl).1 (e ▸ hx)
  ·exact h3 x hx y (Ly _ hy) e
theorem ou (w:World) (base:Nat) (a0:Option Addr) (c0:Nat) (l0:List ByteArray) (ho:w.ownsRow base 9 1 (.slice a0 l0.length c0) l0.length (bT.flat l0)) (a:Option Addr) (l:List ByteArray) (cap:Nat) (h:ld w a (bT.flat l)) (hl:l0.length+l.length≤4000000) (lY:base≤w.heap.size):
  ∃ a' cap' w',(Builtin.append_ #[83,83] 83 #[.slice a0 l0.length c0,.slice a l.length cap]).run J3 w= .ok (.slice a' (l0.length+l.length) cap') w'∧w'.ownsRow base 9 1 (.slice a' (l0.length+l.length) cap') (l0.length+l.length) (bT.flat (l0 ++ l))∧w.grownBy w' (Value.slice a0 l0.length c0).ownBlock∧ ∀ g∈blk a',g∈blk a0∨g=w.heap.size:=by
 obtain ⟨i,hi,e⟩:=Kw.1 zD;simp only [Kx] at e;rw [bT.dc];exact jD w base _ _ 9 i _ 1 16 adT hi e.1 e.2.1 e.2.2 rfl (by decide) a0 l0.length c0 _ ho a l.length cap _ h (bT.dM l) yK hl (by decide) lY
theorem IN (w:World) (s:ByteArray):(w.alloc (.cells #[.string s] 9)).ownsRow w.heap.size 9 1 (.slice (some ⟨w.heap.size,0,none⟩) [s].length 1) [s].length (bT.flat [s]):=
 ⟨rfl,.inr ⟨w.heap.size,1,#[.string s],rfl,Ki _,Kj _ _,Ki _,by decide,rfl,rfl⟩⟩
theorem aI.grown {w w5 w7:World} {a:Option Addr} {n c:Nat} (hb:Below w.heap.size w w5) (hg:w5.grownBy w7 (Value.slice a n c).ownBlock):aI w w7 (blk a):=
 ⟨hg.os.trans hb.os,hg.tape.trans hb.tape,hg.output.trans hb.output,LG hb.size hg.size,fun g h1 h2=>(hg.block g (Nat.lt_of_lt_of_le h1 hb.size) fun e=>h2 (di e.symm)).trans (hb.block g h1)⟩
section
variable {w W:World} {base n gs:Nat} {q:af}
theorem pg {x:aM} {l:List ByteArray} {a:Option Addr} {c:Nat} (h:ap w base q) (hb:aI w W (blk x.ak)) (hx:q.ai[n]? =some x) (ha:q.aK=some ⟨gs,0,none⟩) (ho:W.ownsRow base 9 1 (.slice a l.length c) l.length (bT.flat l)) (hf: ∀ g∈blk a,g∈blk x.ak∨w.heap.size≤g):
  yr w base q ({ q with ai:=q.ai.set n { x with Ma:=l,ak:=a,aq:=c } } :af) (W.setCell ⟨gs,n * 5+4,none⟩ (.slice a l.length c))∧(∃ u,W.cell? ⟨gs,n * 5+4,none⟩=some u)∧W.frozen? ⟨gs,n * 5+4,none⟩=false:=by
 have hn:n < q.ai.length:=(Lj.1 hx).1;have hset:q.ai.set n { x with Ma:=l,ak:=a,aq:=c } =q.ai.take n ++ { x with Ma:=l,ak:=a,aq:=c } :: q.ai.drop (n+1):=by rw [RJ,if_pos hn]
 have hk: ∀ (z:aM) (A B:List aM),(A ++ z :: B).filterMap aU.bt=A.filterMap aU.bt ++ ((aU.bt z).toList ++ B.filterMap aU.bt):=fun z A B=>by
  rw [List.filterMap_append,List.filterMap_cons];cases aU.bt z <;> simp
 have h6:q.ai.filterMap aU.bt=(q.ai.take n).filterMap aU.bt ++ ((aU.bt x).toList ++ (q.ai.drop (n+1)).filterMap aU.bt):=(congrArg (List.filterMap aU.bt) (kL hx)).trans (hk _ _ _);obtain ⟨P1,uZ⟩: ∃ P1,P1=blk q.aN ++ (q.L8.filterMap aR.bt ++ (blk q.bc ++ (blk q.ay ++ (blk q.ax ++ (blk q.am ++ (q.ae.filterMap aC.bt ++ blk q.aK)))))) ++ (q.ai.take n).filterMap aU.bt:=⟨_,rfl⟩
 obtain ⟨P2,IQ⟩: ∃ P2,P2=(q.ai.drop (n+1)).filterMap aU.bt:=⟨_,rfl⟩
 have e1:q.Mc=P1 ++ ((aU.bt x).toList ++ P2):=by rw [uZ,IQ]; simp only [af.Mc,h6,Lm]
 have e2:({ q with ai:=q.ai.set n { x with Ma:=l,ak:=a,aq:=c } } :af).Mc=P1 ++ ((a.map (·.block)).toList ++ P2):=by
  rw [uZ,IQ];simp only [af.Mc,hset,hk,Lm];rfl
 have hkx: ∀ g,g∈blk x.ak↔g∈(aU.bt x).toList:=fun g=>Iff.rfl
 have Dl:=h.nodup;rw [e1] at Dl;have hP: ∀ g,g∈P1∨g∈P2→g∉blk x.ak:=fun g hg hm=>by
  obtain ⟨-,k2,k3⟩:=Kf.1 Dl;obtain ⟨-,-,k6⟩:=Kf.1 k2;rcases hg with hg | hg
  ·exact k3 g hg g (Lz _ ((hkx g).1 hm)) rfl
  ·exact k6 g ((hkx g).1 hm) g hg rfl
 have hin: ∀ g,g∈P1∨g∈P2→g∈q.Mc:=fun g hg=>by
  rw [e1];rcases hg with hg | hg
  ·exact Lz _ hg
  ·exact Ly _ (Ly _ hg)
 have hgl:gs∈blk q.aK:=by rw [ha]; simp [blk]
 have hgP:gs∈P1:=by rw [uZ]; simp [hgl]
 have hsW: ∀ g,g∈P1∨g∈P2→W.heap[g]? =w.heap[g]? :=fun g hg=>hb.same g (h.lt g (hin g hg)).2 (hP g hg)
 have hrow:=aL h.ai fun g hg=>hsW g (.inl (by rw [uZ]; simp [hg]))
 obtain ⟨h1,h2,h3⟩:=rn (K:=bX) (y:= { x with Ma:=l,ak:=a,aq:=c }) (v:= .slice a l.length c) hrow hx ha (show 4 < 5 by decide) rfl;refine ⟨?_,h3⟩;have hnd:({ q with ai:=q.ai.set n { x with Ma:=l,ak:=a,aq:=c } } :af).Mc.Nodup:=by
  rw [e2];refine uX Dl fun g hg=> ?_
  rcases hf g (fZ.2 hg) with hm | hm
  ·exact ⟨fun hq=>hP g (.inl hq) hm,fun hq=>hP g (.inr hq) hm⟩
  ·exact ⟨fun hq=>by have:=(h.lt g (hin g (.inl hq))).2; omega,fun hq=>by have:=(h.lt g (hin g (.inr hq))).2; omega⟩
 have hs: ∀ g,g≠gs→(W.setCell ⟨gs,n * 5+4,none⟩ (.slice a l.length c)).heap[g]? =W.heap[g]? :=fun g hg=>aH hg
 have hsp:q.Mc=(blk q.aN ++ (q.L8.filterMap aR.bt ++ (blk q.bc ++ (blk q.ay ++ (blk q.ax ++ (blk q.am ++ q.ae.filterMap aC.bt)))))) ++ (blk q.aK ++ (q.ai.filterMap aU.bt)):=by simp [af.Mc,Lm]
 have nw: ∀ g,(g∈(blk q.aN ++ (q.L8.filterMap aR.bt ++ (blk q.bc ++ (blk q.ay ++ (blk q.ax ++ (blk q.am ++ q.ae.filterMap aC.bt))))))∨g∈(q.ai.filterMap aU.bt))→g≠gs:=fun g hg he=>by
  have h5:=h.nodup;rw [hsp] at h5;obtain ⟨-,k2,k3⟩:=Kf.1 h5;obtain ⟨-,-,k6⟩:=Kf.1 k2;rcases hg with hg | hg
  ·exact k3 g hg gs (Lz _ hgl) he
  ·exact k6 gs hgl g hg he.symm
 have hall: ∀ g,g∈P1∨g∈P2→g≠gs→(W.setCell ⟨gs,n * 5+4,none⟩ (.slice a l.length c)).heap[g]? =w.heap[g]? :=fun g hg hne=>(hs g hne).trans (hsW g hg)
 refine ⟨⟨aL h.L8 fun g hg=>hall g (.inl (by rw [uZ]; simp [hg])) (nw g (.inl (by simp [hg]))),aL h.aj fun g hg=>hall g (.inl (by rw [uZ]; simp [hg])) (nw g (.inl (by simp [hg]))),aL h.L9 fun g hg=>hall g (.inl (by rw [uZ]; simp [hg])) (nw g (.inl (by simp [hg]))),aL h.ag fun g hg=>hall g (.inl (by rw [uZ]; simp [hg])) (nw g (.inl (by simp [hg]))),aL h.ae fun g hg=>hall g (.inl (by rw [uZ]; simp [hg])) (nw g (.inl (by simp [hg]))),(by show (W.setCell _ _).ownsRow _ _ _ (.slice _ (List.set _ _ _).length _) (List.set _ _ _).length _; rw [LI]; exact h1),fun z hz=>(h.eI z hz).same fun g hg=>hall g (.inl (by rw [uZ]; simp only [Kg]; exact .inl (.inr (.inl (dP.2 ⟨z,hz,hg⟩))))) (nw g (.inl (by simp only [Kg]; exact .inr (.inl (dP.2 ⟨z,hz,hg⟩))))),?_,?_,hnd⟩,⟨hb.os,hb.tape,hb.output,by rw [ja]; exact hb.size,fun g hg hm=>(hs g fun e=>hm (e ▸ hin gs (.inl hgP))).trans (hb.same g hg fun hx=>hm (by rw [e1]; simp only [Kg]; exact .inr (.inl ((hkx g).1 hx))))⟩,fun g hg=> ?_⟩
 ·intro z hz
  exact (h.eE z hz).same fun g hg=>hall g (.inl (by rw [uZ]; simp only [Kg]; exact .inl (.inr (.inr (.inr (.inr (.inr (.inr (.inl (dP.2 ⟨z,hz,hg⟩)))))))))) (nw g (.inl (by simp only [Kg]; exact .inr (.inr (.inr (.inr (.inr (.inr (dP.2 ⟨z,hz,hg⟩)))))))))
 ·intro z hz
  rw [hset] at hz;rcases Kg.1 hz with hz | hz
  ·exact (h.eR z (RK hz)).same fun g hg=>hall g (.inl (by rw [uZ]; exact Ly _ (dP.2 ⟨z,hz,hg⟩))) (nw g (.inr (by exact dP.2 ⟨z,RK hz,hg⟩)))
  ·rcases Kt.1 hz with rfl | hz
   ·show (W.setCell _ _).ownsRow base _ 1 (.slice a l.length c) l.length (bT.flat l)
    exact aL ho fun g hg=>hs g fun e=>by
     rcases hf g hg with h7 | h7
     ·exact hP gs (.inl hgP) (e ▸ h7)
     ·have:=(h.lt gs (hin gs (.inl hgP))).2; omega
   ·exact (h.eR z (RL hz)).same fun g hg=>hall g (.inr (by rw [IQ]; exact dP.2 ⟨z,hz,hg⟩)) (nw g (.inr (by exact dP.2 ⟨z,RL hz,hg⟩)))
 ·rw [e2] at hg
  rcases Kg.1 hg with hg | hg
  ·exact .inl (hin g (.inl hg))
  ·rcases Kg.1 hg with hg | hg
   ·exact (hf g hg).imp_left fun h7=>by rw [e1]; simp only [Kg]; exact .inr (.inl ((hkx g).1 h7))
   ·exact .inl (hin g (.inr hg))
end
end
section
open Go.RowKit Go.Maps
attribute [local go_sem ↓] Kc Kd
def kd.put (k:kd) (n:Nat) (p:aE):kd:= { k with parts:=k.parts.set n p }
def ZG:kd:=⟨0,0,[],[],[]⟩
def KRes (w:World) (r:Option kd) (e:Ending) (w':World):Prop:= ∃ q:eA,e= .returned (.tuple #[.agg q.row,.bool r.isSome])∧gp w' w.heap.size q∧q.pure=r.getD ZG∧Below w.heap.size w w'
theorem Zv {w w':World} {r:Option kd} (h:r=none) (hb:Below w.heap.size w w'):KRes w r (.returned (.tuple #[.agg T9,.bool false])) w':=by
 subst h;exact ⟨⟨0,0,[],none,0,[],none,0,[],none,0⟩,rfl,⟨Ke _ _ _ _,Ke _ _ _ _,Ke _ _ _ _,(fun p hp=>by cases hp),by simp [blk]⟩,rfl,hb⟩
section
variable {ops:Array Oper} {Q:Exit→Act→World→Prop} {o:Oper} {rest:List Oper} {a:Act} {w:World} {old:Array Value} {Zb:Func} {R:Ending→World→Prop} {p u:Tmp}
theorem stK (n m:Nat) {g:Nat} (cs:Array Value) (hg:w.heap[g]? =some (.cells old 37 (0,0))) (h:wpList J3 ops Q rest (a.put o.dst undef) (w.setRow g cs)) (hgd:o.guard=none:=by exact rfl) (ho:o.op= .store 37 (.tmp n) (.tmp m):=by exact rfl)
  (hx:a.eval (.tmp n)= .pointer (some ⟨g,0,none⟩):=by exact rfl) (hy:a.eval (.tmp m)= .agg cs:=by exact rfl) (hi:(Tryz.prog.info? 37).map (·.size)=some cs.size:=by kernel_rfl) (hs:old.size=cs.size:=by exact rfl) (h1:cs.all (·.oneCell')=true:=by kernel_rfl):wpList J3 ops Q (o :: rest) a w:=
 wpList_store_row hgd 37 (.tmp n) (.tmp m) ho g _ old cs hx hy hg hi hs h1 h
theorem aaf (hr:Zb.results= #[.cell p 37,.tmp u]) {g:Nat} {cs:Array Value} (v:Value) (hg:w.heap[g]? =some (.cells old 37 (0,0))) (h:R (.returned (.tuple #[.agg cs,v])) (w.setRow g cs)) (hp:a.tmps.getD p undef= .pointer (some ⟨g,0,none⟩):=by rfl) (hv:a.tmps.getD u undef=v:=by exact rfl) (hd:a.defers= [] :=by exact rfl)
  (hi:(Tryz.prog.info? 37).map (·.size)=some cs.size:=by kernel_rfl):bodyPost J3 Zb R .ret a (w.setRow g cs):=
 bodyPost_ret (v:= .tuple #[.agg cs,v]) (by rw [← hv]; exact bL hr _ _ g _ _ _ _ hp (setRow_heap _ _ _ _ _ _ hg) Tryz.underlying37 rfl hi) hd h
end
theorem Zz {w:World} {base n cap:Nat} {a:Option Addr} {l:List af} {x:af} (y:af) (h:w.ownsRow base 48 8 (.slice a l.length cap) l.length (kp.flat l)) (hx:l[n]? =some x):
  ∃ g,a=some ⟨g,0,none⟩∧base≤g∧g < w.heap.size∧w.there g (n * 8) 8∧(bn w g (n * 8) (kp.vals y)).ownsRow base 48 8 (.slice a l.length cap) l.length (kp.flat (l.set n y)):=by
 have hn:n < l.length:=(Lj.1 hx).1;obtain ⟨g,rfl,hrow⟩:=bl.fX (K:=kp) h (by omega);have hg:=hrow.lt;have hset:l.set n y=l.take n ++ y :: l.drop (n+1):=by rw [RJ,if_pos hn]
 have hl:(l.take n).length=n:=by rw [Lk]; omega
 have hbase:base≤g:=by obtain ⟨cur,-,hb,-⟩:=hrow; exact hb
 refine ⟨g,rfl,hbase,hg,fun r hr=>⟨by have h5:=(hrow.cell hx hr).1; rw [show n * 8+r=n * kp.n+r from rfl,h5,Kz (by show r < 8; exact hr)]; rfl,(hrow.cell hx hr).2⟩,?_⟩;rw [kL hx] at hrow;have h5:=bl.part (K:=kp) (x:=x) (y:=y) (j:=0) (vs:=kp.vals y) hrow (by show 0+8≤8; omega) (fun r _=>by rw [Li]) (fun r hr h6=>absurd ⟨Ky _,by show r < 0+8; have:r < 8:=hr; omega⟩ h6);rw [hl,← hset] at h5;have h6:=h5.owns;rw [LI] at h6;exact h6
def eA.put (k:eA) (n:Nat) (p:af) (a:Option Addr) (c:Nat):eA:= { k with parts:=k.parts.set n p,qn:=a,sa:=c }
theorem Hl {l:List af} {n:Nat} {p:af} {g:Nat} (h:g∈(l.set n p).flatMap af.Mc):g∈l.flatMap af.Mc∨g∈p.Mc:=by
 obtain ⟨q,hq,hg⟩:=Rt.1 h;rcases PO hq with h5 | h5
 ·exact .inl (Rt.2 ⟨q,h5,hg⟩)
 ·rw [h5] at hg; exact .inr hg
theorem Z9: ∀ {l:List af} {n:Nat} {p:af},(l.flatMap af.Mc).Nodup→p.Mc.Nodup→(∀ g∈p.Mc,g∉l.flatMap af.Mc)→((l.set n p).flatMap af.Mc).Nodup
 | [],n,p,h,_,_=>by simp
 | x :: r,0,p,h,hp,hd=>by
  simp only [List.set_cons_zero,aez] at h hd ⊢;have h1:=Kf.1 h;exact Kf.2 ⟨hp,h1.2.1,fun a ha b hb e=>hd a ha (Ly _ (by rw [e]; exact hb))⟩
 | x :: r,n+1,p,h,hp,hd=>by
  simp only [List.set_cons_succ,aez] at h hd ⊢;have h1:=Kf.1 h;refine Kf.2 ⟨h1.1,Z9 h1.2.1 hp (fun g hg hm=>hd g hg (Ly _ hm)),fun a ha b hb e=> ?_⟩;subst e;rcases Hl hb with h5 | h5
  ·exact h1.2.2 a ha a h5 rfl
  ·exact hd a h5 (Lz _ ha)
theorem gp.put {w:World} {base n g:Nat} {k:eA} {x y:af} (h:gp w base k) (hx:k.parts[n]? =some x) (ha:k.qn=some ⟨g,0,none⟩) (hy:ap w base y) (hd: ∀ b∈y.Mc,b∉k.Mc):
  gp (bn w g (n * 8) (kp.vals y)) base (k.put n y k.qn k.sa):=by
 obtain ⟨g',ha',hb,hl,-,hown⟩:=Zz y h.parts hx;rw [ha] at ha';cases ha';have hap:=h.apart;have bR:g∈blk k.qn:=by rw [ha]; simp [blk]
 have hot: ∀ q,q≠g→(bn w g (n * 8) (kp.vals y)).heap[q]? =w.heap[q]? :=fun q hq=>de _ hq
 have hg: ∀ p∈k.parts,∀ q∈p.Mc,q≠g:=fun p hp q hq e=>(hap.2.1 g bR).2 (Rt.2 ⟨p,hp,e ▸ hq⟩)
 have hyg: ∀ q∈y.Mc,q≠g:=fun q hq e=>hd q hq (by subst e; exact Ly _ (Lz _ bR))
 have hnd:=h.nodup;have n1:=Kf.1 hnd;have n2:=Kf.1 n1.2.1;have n3:=Kf.1 n2.2.1;have hdf: ∀ b∈y.Mc,b∉k.parts.flatMap af.Mc:=fun b hb hm=>hd b hb (Ly _ (Ly _ (Ly _ hm)))
 refine ⟨aL h.fn fun q hq=>hot q (fun e=>(hap.1 q hq).1 (e ▸ bR)),by simpa [eA.put] using hown,aL h.eC fun q hq=>hot q (fun e=>(hap.2.1 g bR).1 (e ▸ hq)),fun p hp=> ?_,?_⟩
 ·rcases PO hp with h5 | h5
  ·exact (h.mine p h5).same fun q hq=>hot q (hg p h5 q hq)
  ·rw [h5]
   exact hy.same fun q hq=>hot q (hyg q hq)
 ·show (blk k.vb ++ (blk k.qn ++ (blk k.qi ++ (k.parts.set n y).flatMap af.Mc))).Nodup
  refine Kf.2 ⟨n1.1,Kf.2 ⟨n2.1,Kf.2 ⟨n3.1,Z9 n3.2.1 hy.nodup hdf,fun a ha b hb e=> ?_⟩,fun a ha b hb e=> ?_⟩,fun a ha b hb e=> ?_⟩
  ·subst e
   rcases Hl hb with h5 | h5
   ·exact n3.2.2 a ha a h5 rfl
   ·exact hd a h5 (Ly _ (Ly _ (Lz _ ha)))
  ·subst e
   rcases Kg.1 hb with h5 | h5
   ·exact n2.2.2 a ha a (Lz _ h5) rfl
   ·rcases Hl h5 with h5 | h5
    ·exact n2.2.2 a ha a (Ly _ h5) rfl
    ·exact hd a h5 (Ly _ (Lz _ ha))
  ·subst e
   rcases Kg.1 hb with h5 | h5
   ·exact n1.2.2 a ha a (Lz _ h5) rfl
   ·rcases Kg.1 h5 with h5 | h5
    ·exact n1.2.2 a ha a (Ly _ (Lz _ h5)) rfl
    ·rcases Hl h5 with h5 | h5
     ·exact n1.2.2 a ha a (Ly _ (Ly _ h5)) rfl
     ·exact hd a h5 (Lz _ ha)
theorem gp.same {w w':World} {base:Nat} {k:eA} (h:gp w base k) (hs: ∀ g∈k.Mc,w'.heap[g]? =w.heap[g]?):gp w' base k:=
 ⟨aL h.fn fun g hg=>hs g (Lz _ hg),aL h.parts fun g hg=>hs g (Ly _ (Lz _ hg)),aL h.eC fun g hg=>hs g (Ly _ (Ly _ (Lz _ hg))),fun p hp=>(h.mine p hp).same fun g hg=>hs g (Ly _ (Ly _ (Ly _ (Rt.2 ⟨p,hp,hg⟩)))),h.nodup⟩
theorem gp.lower {w:World} {base base':Nat} {k:eA} (h:gp w base k) (hb:base'≤base):gp w base' k:=
 ⟨cq h.fn hb,cq h.parts hb,cq h.eC hb,fun p hp=>(h.mine p hp).lower hb,h.nodup⟩
structure YW (w:World) (k:eA) (p:af) (W:World):Prop where
 ks:dr w w.heap.size k W
 pb:av W (w.heap.size+1) p
 pat:af.At W p
 ret:W.heap[w.heap.size+2]? =some (.cells T9 37 (0,0))
theorem YW.below {w W W2:World} {k:eA} {p:af} (h:YW w k p W) (hb:Below W.heap.size W W2):YW w k p W2:=⟨h.ks.below hb,h.pb.below hb,h.pat.below hb,(hb.block _ (J2.1 h.ret).1).trans h.ret⟩
theorem YW.first {w:World} {k:eA} {p:af} (h:eA.At w k) (hp:af.At w p):YW w k p (((w.alloc (.cells k.row 37)).alloc (.cells p.cells 48)).alloc (.cells T9 37)):=by
 have b1:Below w.heap.size w (w.alloc (.cells k.row 37)):=(Kp _ _).alloc (Ki _) _;have b2:Below (w.alloc (.cells k.row 37)).heap.size (w.alloc (.cells k.row 37)) ((w.alloc (.cells k.row 37)).alloc (.cells p.cells 48)):=(Kp _ _).alloc (Ki _) _;have b3:Below ((w.alloc (.cells k.row 37)).alloc (.cells p.cells 48)).heap.size ((w.alloc (.cells k.row 37)).alloc (.cells p.cells 48)) (((w.alloc (.cells k.row 37)).alloc (.cells p.cells 48)).alloc (.cells T9 37)):=(Kp _ _).alloc (Ki _) _;have hx:av ((w.alloc (.cells k.row 37)).alloc (.cells p.cells 48)) (w.heap.size+1) p:=heap_alloc2_new _ _ _;refine ⟨((dr.first h).below b2).below b3,hx.below b3,((hp.below b1).below b2).below b3,?_⟩;have h5:=Kj ((w.alloc (.cells k.row 37)).alloc (.cells p.cells 48)) (.cells T9 37);simpa using h5
end
section
open Go.RowKit Go.Maps
theorem cJ.drew {w:World} {base o:Nat} {S:aZ} (h:cJ w base o S):cJ w.drew base o S:=
 ⟨h.opn,h.L8.same fun _ _=>rfl,h.aj.same fun _ _=>rfl,h.L9.same fun _ _=>rfl,h.ag.same fun _ _=>rfl,h.ae.same fun _ _=>rfl,h.ai.same fun _ _=>rfl,fun p hp=>(h.eI p hp).same fun _ _=>rfl,fun p hp=>(h.eE p hp).same fun _ _=>rfl,fun p hp=>(h.eR p hp).same fun _ _=>rfl,h.nodup,h.low⟩
theorem ab9 {α:Type} {num:α→Int} {id:Int} : ∀ {l:List α} {i n:Nat},place (l.map num) id i=((i+n:Nat):Int)→ ∀ y∈l.take n,¬ num y=id
 | [],_,_,_,y,hy=>by simp at hy
 | x :: r,i,0,_,y,hy=>by simp at hy
 | x :: r,i,n+1,h,y,hy=>by
  simp only [List.map_cons,place] at h;by_cases hx:num x=id
  ·rw [if_pos hx] at h
   omega
  ·rw [if_neg hx] at h
   rw [List.take_succ_cons] at hy;rcases Kt.1 hy with rfl | hy
   ·exact hx
   ·exact ab9 (i:=i+1) (by rw [h]; congr 1; omega) y hy
section
variable {l:List af} {part port:Int}
theorem adt {s:dS} (h:endP (l.map (·.pure)) part port=some s): ∃ (n:Nat) (q:af) (m:Nat) (x:aM),place (l.map (·.id)) part 0=(n:Int)∧l[n]? =some q∧q.id=part∧n0 l part port=(m:Int)∧place (q.ai.map (·.id)) port 0=(m:Int)∧q.ai[m]? =some x∧x.todS=s∧x.id=port:=by
 have e:hP (·.id) part (l.map (·.pure))=(hP (·.id) part l).map (·.pure):=by unfold hP; rw [aeu]; rfl
 unfold endP at h;rw [e] at h;unfold n0;rcases ua (num:=fun x:af=>x.id) part l 0 with ⟨-,e2⟩ | ⟨n,p,e1,hp,hid,e2⟩
 ·rw [e2] at h; cases h
 ·rw [e2] at h ⊢
  have h':hP (·.id) port p.pure.ai=some s:=h;have e4:hP (·.id) port p.pure.ai=(hP (·.id) port p.ai).map (·.todS):=by unfold hP af.pure; rw [aeu]; rfl
  rw [e4] at h';rcases ua (num:=fun x:aM=>x.id) port p.ai 0 with ⟨-,h3⟩ | ⟨m,x,h1,h2,hi,h3⟩
  ·rw [h3] at h'; cases h'
  ·rw [h3] at h'
   rw [Li] at e1 h1;exact ⟨n,p,m,x,e1,hp,hid,h1,h1,h2,KC h',hi⟩
def ade (x:aM) (its:List ByteArray) (a:Option Addr) (c:Nat):aM:= { x with Ma:=its,ak:=a,aq:=c }
def abS (q:af) (m:Nat) (x:aM) (its:List ByteArray) (a:Option Addr) (c:Nat):af:= { q with ai:=q.ai.set m (ade x its a c) }
theorem acr {n m:Nat} {q:af} {x:aM} {its:List ByteArray} {a:Option Addr} {c:Nat} (hn:place (l.map (·.id)) part 0=(n:Int)) (hq:l[n]? =some q) (hid:q.id=part) (hm:place (q.ai.map (·.id)) port 0=(m:Int)) (hx:q.ai[m]? =some x) (hxi:x.id=port):
  (l.set n (abS q m x its a c)).map (·.pure)=abK part port its (l.map (·.pure)):=by
 have e1:abK part port its (l.map (·.pure))=(l.map (·.pure)).set n (ab7 port its q.pure):=acp (by rw [Kk,hq]; rfl) (decide_eq_true hid) fun y hy=>by
  rw [← List.map_take] at hy;obtain ⟨z,hz,rfl⟩:=Lr.1 hy;exact decide_eq_false (ab9 (i:=0) (by rw [Li]; exact hn) z hz)
 have e2:ab7 port its q.pure=(abS q m x its a c).pure:=by
  have e3:abP (fun y:dS=>decide (y.id=port)) (abZ its) q.pure.ai=q.pure.ai.set m (abZ its x.todS):=acp (by show (q.ai.map (·.todS))[m]? =_; rw [Kk,hx]; rfl) (decide_eq_true hxi) fun y hy=>by
   have hy':y∈(q.ai.map (·.todS)).take m:=hy;rw [← List.map_take] at hy';obtain ⟨z,hz,rfl⟩:=Lr.1 hy';exact decide_eq_false (ab9 (num:=fun z:aM=>z.id) (i:=0) (by rw [Li]; exact hm) z hz)
  unfold ab7;rw [e3];simp [abS,af.pure,PN,ade,abZ]
 rw [e1,e2,PN]
end
theorem ac1 {q:af} {m:Nat} {x:aM} {its:List ByteArray} {a:Option Addr} {c:Nat} :(abS q m x its a c).cells=q.cells:=by
 simp [af.cells,abS]
theorem acz {P Q Q' R:List Nat} (h:(P ++ (Q ++ R)).Nodup) (hq:Q'.Nodup) (hd: ∀ g∈Q',g∈Q∨(g∉P∧g∉R)):(P ++ (Q' ++ R)).Nodup:=by
 have h1:=Kf.1 h;have h2:=Kf.1 h1.2.1;refine Kf.2 ⟨h1.1,Kf.2 ⟨hq,h2.2.1,fun a ha b hb e=> ?_⟩,fun a ha b hb e=> ?_⟩
 ·subst e
  rcases hd a ha with h5 | h5
  ·exact h2.2.2 a h5 a hb rfl
  ·exact h5.2 hb
 ·subst e
  rcases Kg.1 hb with hb | hb
  ·rcases hd a hb with h5 | h5
   ·exact h1.2.2 a ha a (Lz _ h5) rfl
   ·exact h5.1 ha
  ·exact h1.2.2 a ha a (Ly _ hb) rfl
theorem gp.turnAt {w W:World} {base n:Nat} {k:eA} {q q2:af} (h:gp w base k) (hx:k.parts[n]? =some q) (ht:yr w base q q2 W) (hc:q2.cells=q.cells):
  gp W base { k with parts:=k.parts.set n q2 } ∧(∀ g∈eA.Mc { k with parts:=k.parts.set n q2 },g∈k.Mc∨w.heap.size≤g)∧aI w W k.Mc:=by
 have hn:n < k.parts.length:=(Lj.1 hx).1;have hsp:=kL hx;have hset:k.parts.set n q2=k.parts.take n ++ q2 :: k.parts.drop (n+1):=by rw [RJ,if_pos hn]
 obtain ⟨P,hPx⟩: ∃ P,P=blk k.vb ++ (blk k.qn ++ (blk k.qi ++ (k.parts.take n).flatMap af.Mc)):=⟨_,rfl⟩
 obtain ⟨R,hR⟩: ∃ R,R=(k.parts.drop (n+1)).flatMap af.Mc:=⟨_,rfl⟩
 have e1:k.Mc=P ++ (q.Mc ++ R):=by
  unfold eA.Mc;rw [hPx,hR]
  conv=>lhs; rw [hsp]
  simp [Lm]
 have e2:eA.Mc { k with parts:=k.parts.set n q2 } =P ++ (q2.Mc ++ R):=by
  unfold eA.Mc;rw [hPx,hR];simp only [hset];simp [Lm]
 have hnd:(P ++ (q.Mc ++ R)).Nodup:=by rw [← e1]; exact h.nodup
 have n1:=Kf.1 hnd;have n2:=Kf.1 n1.2.1;have hlt: ∀ g,g∈P∨g∈R→g < w.heap.size∧g∉q.Mc:=fun g hg=>by
  have hm:g∈k.Mc:=by
   rw [e1];rcases hg with hg | hg
   ·exact Lz _ hg
   ·exact Ly _ (Ly _ hg)
  refine ⟨(h.lt hm).2,fun hq=> ?_⟩;rcases hg with hg | hg
  ·exact n1.2.2 g hg g (Lz _ hq) rfl
  ·exact n2.2.2 g hq g hg rfl
 have hs: ∀ g,g∈P∨g∈R→W.heap[g]? =w.heap[g]? :=fun g hg=>ht.kept.same g (hlt g hg).1 (hlt g hg).2
 have inP: ∀ g,g∈blk k.vb∨g∈blk k.qn∨g∈blk k.qi∨g∈(k.parts.take n).flatMap af.Mc→g∈P:=fun g hg=>by rw [hPx]; simp only [Kg]; exact hg
 have abF:kp.flat (k.parts.set n q2)=kp.flat k.parts:=by
  rw [hset]
  conv=>rhs; rw [hsp]
  have:kp.vals q2=kp.vals q:=by show q2.cells.toList=q.cells.toList; rw [hc]
  simp [Kind.flat,this]
 refine ⟨⟨aL h.fn fun g hg=>hs g (.inl (inP g (.inl hg))),?_,aL h.eC fun g hg=>hs g (.inl (inP g (.inr (.inr (.inl hg))))),fun p hp=> ?_,?_⟩,fun g hg=> ?_,ht.kept.mono fun g hg=>by rw [e1]; exact Ly _ (Lz _ hg)⟩
 ·show W.ownsRow base _ 8 (.slice k.qn (k.parts.set n q2).length k.sa) (k.parts.set n q2).length (kp.flat (k.parts.set n q2))
  rw [LI,abF];exact aL h.parts fun g hg=>hs g (.inl (inP g (.inr (.inl hg))))
 ·have hp':p∈k.parts.take n ++ q2 :: k.parts.drop (n+1):=by rw [← hset]; exact hp
  rcases Kg.1 hp' with h5 | h5
  ·exact (h.mine p (RK h5)).same fun g hg=>hs g (.inl (inP g (.inr (.inr (.inr (Rt.2 ⟨p,h5,hg⟩))))))
  ·rcases Kt.1 h5 with rfl | h5
   ·exact ht.own
   ·exact (h.mine p (RL h5)).same fun g hg=>hs g (.inr (by rw [hR]; exact Rt.2 ⟨p,h5,hg⟩))
 ·show (eA.Mc { k with parts:=k.parts.set n q2 }).Nodup
  rw [e2];refine acz hnd ht.own.nodup fun g hg=> ?_
  rcases ht.far g hg with h5 | h5
  ·exact .inl h5
  ·exact .inr ⟨fun hp=>by have:=(hlt g (.inl hp)).1; omega,fun hp=>by have:=(hlt g (.inr hp)).1; omega⟩
 ·rw [e2] at hg
  rw [e1];simp only [Kg] at hg ⊢;rcases hg with hg | hg | hg
  ·exact .inl (.inl hg)
  ·exact (ht.far g hg).imp_left fun h5=> .inr (.inl h5)
  ·exact .inl (.inr (.inr hg))
end
section
open Go.RowKit Go.Maps
attribute [local go_sem ↓] Kc Kd
theorem acV (ad:Addr) (l:List ByteArray) (cap:Nat) (w:World) (hl:l.length≤1048576) (hr:Row w (some ad) (bT.flat l)):
  Calls J3 157 #[.slice (some ad) l.length cap] w fun e w'=> ∃ (a':Option Addr) (c':Nat),e= .returned (.slice a' l.length c')∧w'.ownsRow w.heap.size 9 1 (.slice a' l.length c') l.length (bT.flat l)∧Below w.heap.size w w':=by
 have hz:Below w.heap.size w (w.alloc (.cells #[] 9)):=(Kp _ _).alloc (Ki _) _;obtain ⟨a',c',w',hap,ho,hg,-⟩:=tO (w.alloc (.cells #[] 9)) w.heap.size w.heap.size (Kj _ _) (Ki _) (some ad) l cap (hr.below hz) hl hz.size;have HN:Hid (w'.ownsRow w.heap.size 9 1 (.slice a' l.length c') l.length (bT.flat l)∧Below w.heap.size w w'):=⟨ho,hz.grown hg hz.size (fun q hq=>by cases hq; exact Ki _)⟩
 clear ho hg hz hr;have hq:Sem.run J3 (binOp .eql 83 (.slice (some ad) l.length cap) (.slice none 0 0)) w= .ok (.bool false) w:=by first | kernel_rfl | rfl
 go_enter Tryz.func157,Tryz.ntmps157
 go_wp2_with (at_builtin; refine br _ rfl _ _ 83 rfl _ _ _ _ rfl rfl hap ?_);go_ret;exact ⟨a',c',rfl,HN.I.1,HN.I.2⟩
theorem ac8 {w:World} {base g n cap off:Nat} {e:TypeId} {xs vs:List Value} (h:w.ownsRow base e 1 (.slice (some ⟨g,0,none⟩) n cap) n xs) (ho:n≤off):(bn w g off vs).ownsRow base e 1 (.slice (some ⟨g,0,none⟩) n cap) n xs:=by
 refine ⟨h.1,?_⟩;rcases h.2 with ⟨h1,-⟩ | ⟨g',cap',cur,h1,h2,h3,h4,h5,h6,h7⟩
 ·cases h1
 ·simp only [LD,LF,aeS,and_true,true_and] at h1
  obtain ⟨rfl,rfl⟩:=h1;refine .inr ⟨g,cap,iD cur off vs,rfl,h2,jc vs h3,h4,h5,by rw [kM]; exact h6,?_⟩;rw [← h7];apply List.ext_getElem?;intro j;rw [QW,QW]
  split
  ·rw [QJ,QJ,lL _ _ _ _ (by omega)]
  ·rfl
theorem acR {w:World} {base g n cap:Nat} {e:TypeId} {xs:List Value} (h:w.ownsRow base e 1 (.slice (some ⟨g,0,none⟩) n cap) n xs) {j:Nat} (hj:j < cap):(w.cell? ⟨g,j,none⟩).isSome=true∧w.frozen? ⟨g,j,none⟩=false:=by
 rcases h.2 with ⟨h1,-⟩ | ⟨g',cap',cur,h1,h2,h3,h4,h5,h6,h7⟩
 ·cases h1
 ·simp only [LD,LF,aeS,and_true,true_and] at h1
  obtain ⟨rfl,rfl⟩:=h1
  have:j < cur.size:=by omega
  simp [World.cell?,World.frozen?,h3,this]
theorem adk {w:World} {base g n cap:Nat} {e:TypeId} {xs:List Value} (h:w.ownsRow base e 1 (.slice (some ⟨g,0,none⟩) n cap) n xs):w.ownsRow base e 1 (.slice (some ⟨g,0,none⟩) 0 cap) 0 [] :=by
 rcases h.2 with ⟨h1,-⟩ | ⟨g',cap',cur,h1,h2,h3,h4,h5,h6,h7⟩
 ·cases h1
 ·simp only [LD,LF,aeS,and_true,true_and] at h1
  obtain ⟨rfl,rfl⟩:=h1;exact ⟨rfl,.inr ⟨g,cap,cur,rfl,h2,h3,Ky _,h5,h6,by simp⟩⟩
theorem acW (a:Option Addr) (n cap:Nat) (w:World) (hn:n≤cap) (hc:cap≤maxLen) (hz:a=none→n=0∧cap=0):
  Calls J3 158 #[.slice a n cap,.int .i64 0,.int .i64 0] w fun e w'=>e= .returned (.slice a n cap)∧w'=w:=by
 unfold maxLen at hc;cases a with
 | none=>
  obtain ⟨rfl,rfl⟩:=hz rfl;clear hz hn hc
  go_enter Tryz.func158,Tryz.ntmps158
  go_wp2;go_ret;exact ⟨rfl,rfl⟩
 | some ad=>
  clear hz;have h1:(n:Int)≤(cap:Int):=by omega
  have h2:(0:Int)≤(n:Int):=by omega
  go_enter Tryz.func158,Tryz.ntmps158
  go_wp2;go_ret;exact ⟨rfl,rfl⟩
theorem ac7 (g cap N base:Nat) (l:List ByteArray) (w:World) (h0:0 < N) (hN:N≤l.length) (hl:l.length≤1000) (ho:w.ownsRow base 9 1 (.slice (some ⟨g,0,none⟩) l.length cap) l.length (bT.flat l)):
  Calls J3 158 #[.slice (some ⟨g,0,none⟩) l.length cap,.int .i64 0,.int .i64 N] w fun e w'=>e= .returned (.slice (some ⟨g,0,none⟩) (l.length - N) cap)∧w'.ownsRow base 9 1 (.slice (some ⟨g,0,none⟩) (l.length - N) cap) (l.length - N) (bT.flat (l.drop N))∧aI w w' [g] :=by
 have hcap:l.length≤cap∧cap≤maxLen:=by
  rcases ho.2 with ⟨h1,-⟩ | ⟨g',cap',cur,h1,h2,h3,h4,h5,h6,h7⟩
  ·cases h1
  ·simp only [LD,LF,aeS,and_true,true_and] at h1
   obtain ⟨rfl,rfl⟩:=h1;exact ⟨h4,h5⟩
 obtain ⟨A,hA,hsrc⟩: ∃ A:Addr,(if cap=N then some (⟨g,0,none⟩:Addr) else some ⟨g,N,none⟩)=some A∧ ∀ j u,(bT.flat (l.drop N))[j]? =some u→w.drew.cell? (A.add j)=some u:=by
  have h1:=qK (K:=bT) (k:=N) (c:=cap) hcap.1 (nP ho);have e:(if cap=N then some (⟨g,0,none⟩:Addr) else Option.map (fun x:Addr=>x.add (N * bT.n)) (some (⟨g,0,none⟩:Addr)))=(if cap=N then some (⟨g,0,none⟩:Addr) else some ⟨g,N,none⟩):=by
   split
   ·rfl
   ·show some ((⟨g,0,none⟩:Addr).add (N * 1))=_
    rw [qZ,Nat.mul_one]
  rw [e] at h1;refine ⟨if cap=N then ⟨g,0,none⟩ else ⟨g,N,none⟩,by split <;> rfl,fun j u hu=> ?_⟩;obtain ⟨ad,h2,h3⟩:=h1 j u hu;have h4:(if cap=N then (⟨g,0,none⟩:Addr) else ⟨g,N,none⟩)=ad:=by
   split at h2 <;> rename_i hh
   ·rw [if_pos hh]; exact KC h2
   ·rw [if_neg hh]; exact KC h2
  rw [h4];exact h3
 obtain ⟨i,hi,e⟩:=Kw.1 zD;simp only [Kx] at e;have hld:(l.drop N).length=l.length - N:=Ql;obtain ⟨w1,hr1,ho1,CT⟩:=run_append_fits (P:=J3) w.drew base 83 83 9 i 1 adT hi e.2.1 g 0 cap [] (aL (adk ho) fun _ _=>rfl) A (l.length - N) (cap - N) (bT.flat (l.drop N)) (by rw [bT.dM,hld]; rfl) hsrc yK (by omega);simp only [Li,List.nil_append] at hr1 ho1;have hcl: ∀ ty,(Builtin.clear_ #[83] ty #[.slice (some ⟨g,l.length - N,none⟩) (l.length - (l.length - N)) (cap - (l.length - N))]).run J3 w1= .ok (.tuple #[]) (w1.setCells g (l.length - N) (List.replicate (l.length - (l.length - N)) (.string ⟨#[]⟩))):=fun ty=>
  Lib.run_clear_slice w1 _ _ ty _ adT Tryz.zeroValue9 rfl rfl g (l.length - N) _ _ (by omega) (fun j hj=>(acR ho1 (by omega)).1) (fun j hj=>(acR ho1 (by omega)).2)
 have HE:Hid ((w1.setCells g (l.length - N) (List.replicate (l.length - (l.length - N)) (.string ⟨#[]⟩))).ownsRow base 9 1 (.slice (some ⟨g,0,none⟩) (l.length - N) cap) (l.length - N) (bT.flat (l.drop N))∧aI w (w1.setCells g (l.length - N) (List.replicate (l.length - (l.length - N)) (.string ⟨#[]⟩))) [g]):=by
  rw [iL];refine ⟨ac8 ho1 (Ki _),?_⟩;have h5:aI w w1 [g] :=⟨CT.os,CT.tape,CT.output,CT.size,fun k hk hn=>CT.block k hk fun ee=>hn (by simp at ee; simp [ee])⟩
  exact h5.trans (aI.set _ (by simp))
 have HR:=aA hr1;have n1:(N:Int)≤(l.length:Int):=by omega
 have n2:(l.length:Int)≤(cap:Int):=by omega
 have n3:(N:Int)≤(cap:Int):=by omega
 have n4: ¬ (0:Int)=(N:Int):=by omega
 have n5:(0:Int)≤(N:Int):=by omega
 have n6:N≤cap:=by omega
 have n7:l.length≤cap:=hcap.1;have n8:(cap:Int)≤9223372036854775807:=by have:=hcap.2; unfold maxLen at this; omega
 have n9: ¬ 0=N:=by omega
 clear hsrc ho1 CT ho hr1 e hi hcap hld
 go_enter Tryz.func158,Tryz.ntmps158
 go_upto_region 5 with fail;refine Kr (S:=fun _=>True) (by kernel_rfl) trivial (fun _=> ?_);refine tt 0 trivial ?_;refine tt 1 trivial ?_;refine tt 2 trivial ?_;refine tt 3 trivial ?_;refine tt 4 trivial ?_;refine tt 5 trivial ?_
 try simp only [pt,sb,s0,s1]
 refine L7 6 (fun Q hQ=> ?_);refine cM _ _ 83 rfl _ _ _ w1 rfl rfl HR.I ?_;refine hQ.out _ _ trivial (fun _=> ?_);clear hQ Q HR
 try simp only [pt,sb,s0,s1]
 refine tt 7 trivial ?_;refine K3 (by kernel_rfl) ?_ _;have n10:((l.length - N:Nat):Int)≤(l.length:Int):=by omega
 have n11:(0:Int)≤((l.length - N:Nat):Int):=by omega
 have n12: ¬ cap=l.length - N:=by omega
 go_wp2;go_ret;exact ⟨rfl,HE.I⟩
theorem adJ (a:Option Addr) (cap N base:Nat) (l:List ByteArray) (w:World) (hN:N≤l.length) (hl:l.length≤1000) (ho:w.ownsRow base 9 1 (.slice a l.length cap) l.length (bT.flat l)):
  Calls J3 158 #[.slice a l.length cap,.int .i64 0,.int .i64 N] w fun e w'=>e= .returned (.slice a (l.length - N) cap)∧w'.ownsRow base 9 1 (.slice a (l.length - N) cap) (l.length - N) (bT.flat (l.drop N))∧aI w w' (blk a):=by
 by_cases h0:N=0
 ·subst h0
  have hc:l.length≤cap∧cap≤maxLen∧(a=none→l.length=0∧cap=0):=by
   rcases ho.2 with ⟨h1,h2⟩ | ⟨g',cap',cur,h1,h2,h3,h4,h5,h6,h7⟩
   ·simp only [LD] at h1
    exact ⟨by omega,by rw [h1.2.2]; exact Ky _,fun _=>⟨h2,h1.2.2⟩⟩
   ·simp only [LD] at h1
    rw [h1.2.2];exact ⟨h4,h5,fun e=>by rw [e] at h1; cases h1.1⟩
  refine (acW a l.length cap w hc.1 hc.2.1 hc.2.2).mono ?_;rintro e w' ⟨rfl,rfl⟩;exact ⟨by rw [Nat.sub_zero],by rw [Nat.sub_zero,List.drop_zero]; exact ho,aI.refl _ _⟩
 ·rcases ho.2 with ⟨h1,h2⟩ | ⟨g',cap',cur,h1,h2,h3,h4,h5,h6,h7⟩
  ·omega
  ·simp only [LD] at h1
   obtain ⟨rfl,-,rfl⟩:=h1;exact (ac7 g' cap N base l w (by omega) hN hl ho).mono fun e w' h=>⟨h.1,h.2.1,h.2.2.mono fun b hb=>by simpa [blk] using hb⟩
end
section
open Go Go.RowKit
def oc (cs:Array Value) (T:TypeId) (X:Nat) (W:World):Prop:=W.heap[X]? =some (.cells cs T (0,0))
section
variable {cs:Array Value} {T:TypeId} {X:Nat} {W W':World} {bs:List Nat}
theorem oc.lt (h:oc cs T X W):X < W.heap.size:=(J2.1 h).1
theorem oc.below (h:oc cs T X W) (hb:Below W.heap.size W W'):oc cs T X W':=(hb.block _ h.lt).trans h
theorem oc.kept (h:oc cs T X W) (hk:aI W W' bs) (hs:X∉bs):oc cs T X W':=(hk.same _ h.lt hs).trans h
end
theorem gs {α : Type} {a : α} {l : List α} {i : Nat} (h : i + 1 < (a :: l).length) : (a :: l)[i + 1]'h = l[i]'(Nat.lt_of_succ_lt_succ h) := rfl
section
variable {p q:af} {w W U V:World} {B X b:Nat} {cs:Array Value} {T:TypeId} {Y:Prop}
end
end
section
open Go.RowKit Go.Maps
abbrev eA.wp (k:eA) (l:List af):eA:= { k with parts:=l }
structure abx (w:World) (base:Nat) (k:eA) (l:List af) (B:List (Nat × Array Value × TypeId)) (W:World):Prop where
 own:gp W base (k.wp l)
 len:l.length=k.parts.length
 kept:aI w W k.Mc
 lo: ∀ g∈k.Mc,g < w.heap.size
 far: ∀ g∈(k.wp l).Mc,g∈k.Mc∨w.heap.size≤g
 box: ∀ x∈B,W.heap[x.1]? =some (.cells x.2.1 x.2.2 (0,0))∧x.1∉(k.wp l).Mc
section
variable {w W V:World} {base n m gs c:Nat} {k:eA} {l:List af} {B:List (Nat × Array Value × TypeId)} {q q2:af} {x:aM} {its:List ByteArray} {a:Option Addr}
theorem abx.below (h:abx w base k l B W) (hb:Below W.heap.size W V):abx w base k l B V:=
 ⟨h.own.below hb,h.len,h.kept.trans (.dI hb),h.lo,h.far,fun x hx=>⟨(hb.block _ (J2.1 (h.box x hx).1).1).trans (h.box x hx).1,(h.box x hx).2⟩⟩
theorem abx.put (h:abx w base k l B W) (cs:Array Value) (T:TypeId):abx w base k l ((W.heap.size,cs,T) :: B) (W.alloc (.cells cs T)):=by
 have h2:=h.below ((Kp _ _).alloc (Ki _) (.cells cs T));refine ⟨h2.own,h2.len,h2.kept,h2.lo,h2.far,fun x hx=> ?_⟩;rcases Kt.1 hx with rfl | hx
 ·exact ⟨Kj _ _,fun hm=>by have:=(h.own.lt hm).2; omega⟩
 ·exact h2.box x hx
theorem abx.less {B':List (Nat × Array Value × TypeId)} (h:abx w base k l B W) (hs: ∀ x∈B',x∈B):abx w base k l B' W:=⟨h.own,h.len,h.kept,h.lo,h.far,fun x hx=>h.box x (hs x hx)⟩
theorem abx.row (h:abx w base k l B W):(k.wp l).row=k.row:=by simp [eA.row,h.len]
theorem abx.ju (h:abx w base k l B W) (hx:l[n]? =some q) (ht:yr W base q q2 V) (hc:q2.cells=q.cells):abx w base k (l.set n q2) B V:=by
 obtain ⟨h1,h2,h3⟩:=h.own.turnAt hx ht hc;have hsz:=h.kept.size;refine ⟨h1,by rw [LI]; exact h.len,⟨h3.os.trans h.kept.os,h3.tape.trans h.kept.tape,h3.output.trans h.kept.output,LG hsz h3.size,fun g hg hn=> ?_⟩,h.lo,fun g hg=> ?_,fun y hy=> ?_⟩
 ·refine (h3.same g (by omega) fun hm=> ?_).trans (h.kept.same g hg hn)
  rcases h.far g hm with h5 | h5
  ·exact hn h5
  ·omega
 ·rcases h2 g hg with h5 | h5
  ·exact h.far g h5
  ·exact .inr (by omega)
 ·obtain ⟨b1,b2⟩:=h.box y hy
  have hlt:=(J2.1 b1).1;refine ⟨(h3.same _ hlt b2).trans b1,fun hm=> ?_⟩;rcases h2 _ hm with h5 | h5
  ·exact b2 h5
  ·omega
theorem abx.Ma (h:abx w base k l B W) (hb:Below W.heap.size W V) (hq:l[n]? =some q) (hx:q.ai[m]? =some x) (ha:q.aK=some ⟨gs,0,none⟩) (ho:V.ownsRow base 9 1 (.slice a its.length c) its.length (bT.flat its)) (hf: ∀ g∈blk a,W.heap.size≤g):
  abx w base k (l.set n (abS q m x its a c)) B (V.setCell ⟨gs,m * 5+4,none⟩ (.slice a its.length c))∧(∃ u,V.cell? ⟨gs,m * 5+4,none⟩=some u)∧V.frozen? ⟨gs,m * 5+4,none⟩=false:=by
 obtain ⟨h1,h2,h3⟩:=pg (h.own.mine q (KA hq)) (aI.dI hb) hx ha ho (fun g hg=> .inr (hf g hg));exact ⟨h.ju hq h1 ac1,h2,h3⟩
theorem abV (h:gp W base (k.wp l)) (hq:l[n]? =some q) (hx:q.ai[m]? =some x): ∃ aaB gs,k.qn=some ⟨aaB,0,none⟩∧q.aK=some ⟨gs,0,none⟩∧W.cell? ⟨aaB,n * 8+7,none⟩=some (.slice (some ⟨gs,0,none⟩) q.ai.length q.aV)∧aM.At W gs m x∧Row W x.ak (bT.flat x.Ma)∧aaB∈(k.wp l).Mc∧gs∈(k.wp l).Mc∧aaB≠gs:=by
 obtain ⟨aaB,h1,⟨-,-,-,-,-,-,-,c7⟩,hat⟩:=ic (l:=l) h.at.parts hq;obtain ⟨gs,h2,h3⟩:=lm hat.2.2.2.2.2 hx;rw [h2] at c7;have m1:aaB∈blk k.qn:=by rw [show k.qn=_ from h1]; simp [blk]
 have m2:gs∈l.flatMap af.Mc:=Rt.2 ⟨q,KA hq,by unfold af.Mc; rw [h2]; simp [blk]⟩;refine ⟨aaB,gs,h1,h2,c7,h3,nJ hat.2.2.2.2.2 hx,Ly _ (Lz _ m1),Ly _ (Ly _ (Ly _ m2)),fun e=> ?_⟩;exact (h.apart.2.1 aaB m1).2 (e ▸ m2)
end
theorem adu {W:World} {base j:Nat} {q:af} {x:aM} (h:ap W base q) (hx:q.ai[j]? =some x):x.Ma.length≤x.aq:=by
 have h5:W.ownsRow base 9 1 (.slice x.ak x.Ma.length x.aq) x.Ma.length (bT.flat x.Ma):=h.eR x (KA hx);rcases h5.2 with ⟨h6,h7⟩ | ⟨g,cap,cur,h6,-,-,h7,-⟩
 ·rw [h7]; exact Ky _
 ·simp only [LD] at h6; rw [h6.2.2]; exact h7
theorem set_id {l:List af} {n m:Nat} {q:af} {x:aM} {its:List ByteArray} {a:Option Addr} {c:Nat} (h:l[n]? =some q):(l.map (·.id)).set n (abS q m x its a c).id=l.map (·.id):=by
 have hn:n < (l.map (·.id)).length:=by rw [List.length_map]; exact (Lj.1 h).1
 have h1:(l.map (·.id))[n] =q.id:=by
  have h2:(l.map (·.id))[n]? =some q.id:=by rw [Kk,h]; rfl
  rw [Kz hn] at h2;exact KC h2
 show (l.map (·.id)).set n q.id=_
 rw [← h1];exact List.set_getElem_self hn
theorem ada {α:Type} {f:α→List Nat} : ∀ {l:List α} {i j:Nat} {x y:α} {g:Nat},(l.flatMap f).Nodup→l[i]? =some x→l[j]? =some y→i≠j→g∈f x→g∈f y→False
 | [],i,_,_,_,_,_,h,_,_,_,_=>by simp at h
 | z :: r,0,0,_,_,_,_,_,_,hn,_,_=>hn rfl
 | z :: r,0,j+1,x,y,g,h,hx,hy,_,h1,h2=>by
  simp only [QI,LF] at hx;subst hx;simp only [QC] at hy;rw [aez] at h;exact (Kf.1 h).2.2 g h1 g (Rt.2 ⟨y,KA hy,h2⟩) rfl
 | z :: r,i+1,0,x,y,g,h,hx,hy,_,h1,h2=>by
  simp only [QI,LF] at hy;subst hy;simp only [QC] at hx;rw [aez] at h;exact (Kf.1 h).2.2 g h2 g (Rt.2 ⟨x,KA hx,h1⟩) rfl
 | z :: r,i+1,j+1,x,y,g,h,hx,hy,hn,h1,h2=>by
  simp only [QC] at hx hy;rw [aez] at h;exact ada (Kf.1 h).2.1 hx hy (fun e=>hn (by rw [e])) h1 h2
theorem adv {W:World} {base:Nat} {k:eA} (h:gp W base k):(k.parts.flatMap af.Mc).Nodup:=
 (Kf.1 (Kf.1 (Kf.1 h.nodup).2.1).2.1).2.1
theorem adA {q:af} {gs:Nat} (h:q.aK=some ⟨gs,0,none⟩):gs∈q.Mc:=by unfold af.Mc; rw [h]; simp [blk]
theorem adI {q:af} {j:Nat} {x:aM} {g:Nat} (hx:q.ai[j]? =some x) (hg:g∈blk x.ak):g∈q.Mc:=by
 have:g∈q.ai.filterMap aU.bt:=dP.2 ⟨x,KA hx,fZ.1 hg⟩
 simp only [af.Mc,Kg];exact .inr (.inr (.inr (.inr (.inr (.inr (.inr (.inr this)))))))
theorem adL {W:World} {base n1 n2 j gs:Nat} {k:eA} {l:List af} {q1 q2:af} {x:aM} (h:gp W base (k.wp l)) (h1:l[n1]? =some q1) (h2:l[n2]? =some q2) (hn:n1≠n2) (hx:q1.ai[j]? =some x) (hg:gs∈blk x.ak) (ha:q2.aK=some ⟨gs,0,none⟩):False:=
 ada (l:=l) (adv h) h1 h2 hn (adI hx hg) (adA ha)
section
variable {k:kd} {ps:List aE}
theorem ac0 (h:k.Small) (hc:abz k.parts ps):kd.Small { k with parts:=ps } :=by
 have hlen:ps.length=k.parts.length:=by have:=congrArg List.length hc.acE; simpa using this
 refine ⟨h.Ts,by show ps.length≤_; rw [hlen]; exact h.sC,h.w8,h.win,fun p hp=> ?_,h.eC⟩;have hm:abQ p∈k.parts.map abQ:=by rw [← hc.acE]; exact Lr.2 ⟨p,hp,rfl⟩
 obtain ⟨p0,hp0,e⟩:=Lr.1 hm;have h0:=h.parts p0 hp0;have e1:p.L8=p0.L8:=(congrArg aE.L8 e).symm;have e2:p.aj=p0.aj:=(congrArg aE.aj e).symm;have e3:p.L9=p0.L9:=(congrArg aE.L9 e).symm;have e4:p.ag=p0.ag:=(congrArg aE.ag e).symm;have e5:p.ae=p0.ae:=(congrArg aE.ae e).symm;have e6:p.ai.map abL=p0.ai.map abL:=(congrArg aE.ai e).symm;have e7:p.ai.length=p0.ai.length:=by have:=congrArg List.length e6; simpa using this
 refine ⟨by rw [e1]; exact h0.dl,by rw [e2]; exact h0.fx,by rw [e3]; exact h0.cD,by rw [e4]; exact h0.cC,by rw [e5]; exact h0.cb,by rw [e7]; exact h0.dH,by rw [e1]; exact h0.L8,by rw [e2]; exact h0.aj,by rw [e3]; exact h0.L9,by rw [e4]; exact h0.ag,by rw [e5]; exact h0.ae,fun x hx=> ?_⟩;have hm:abL x∈p0.ai.map abL:=by rw [← e6]; exact Lr.2 ⟨x,hx,rfl⟩
 obtain ⟨x0,hx0,e8⟩:=Lr.1 hm;have e9:x.id=x0.id:=(congrArg dS.id e8:(abL x0).id=(abL x).id).symm;have hr:=abT (hc.right p hp x hx);refine ⟨by rw [e9]; exact (h0.ai x0 hx0).1,by have:=hr.2.1; have:=hr.2.2.2.2; omega,fun s hs=> ?_⟩
 have:=hr.2.2.2.1 s hs
 simp only [bw,Bool.and_eq_true,decide_eq_true_eq] at this;omega
end
end
section
open Go.RowKit Go.Maps
attribute [local go_sem ↓] Kc Kd
structure PBx (W:World) (base g:Nat) (x:aM):Prop where
 box:W.heap[g]? =some (.cells (cW x) 85 (0,0))
 mine:W.ownsRow base 9 1 (.slice x.ak x.Ma.length x.aq) x.Ma.length (bT.flat x.Ma)
theorem PBx.same {W V:World} {base g:Nat} {x:aM} (h:PBx W base g x) (h1:V.heap[g]? =W.heap[g]?) (h2: ∀ b∈blk x.ak,V.heap[b]? =W.heap[b]?):PBx V base g x:=⟨h1.trans h.box,aL h.mine h2⟩
theorem PBx.below {W V:World} {base g:Nat} {x:aM} (h:PBx W base g x) (hb:Below W.heap.size W V):PBx V base g x:=h.same (hb.block _ (J2.1 h.box).1) fun _ hb'=>hb.block _ (cf h.mine hb').2
def acg (x:aM) (its:List ByteArray) (a:Option Addr) (c:Nat):aM:= { x with Ma:=its,ak:=a,aq:=c }
theorem PBx.store {V:World} {base g c:Nat} {x:aM} {its:List ByteArray} {a:Option Addr} (h:V.heap[g]? =some (.cells (cW x) 85 (0,0))) (ho:V.ownsRow base 9 1 (.slice a its.length c) its.length (bT.flat its)) (hg:g∉blk a):PBx (V.setCell ⟨g,4,none⟩ (.slice a its.length c)) base g (acg x its a c):=
 ⟨cx (i:=4) h,aL ho fun _ hb=>aH fun e=>hg (e ▸ hb)⟩
def abO (s t:dS):dS × dS:=if s.Mf then (abZ (s.Ma.drop (min s.Ma.length (ab4 t))) s,abZ (t.Ma ++ s.Ma.take (min s.Ma.length (ab4 t))) t) else if s.Ma.length=0 then (s,t) else (s,abZ (s.Ma.take 1) t)
def ab8 (w:World) (o:gi) (x y:aM) (abn abC:Nat) (e:Ending) (w':World):Prop:=e= .returned (.tuple #[])∧ ∃ x' y':aM,PBx w' abn o.s x'∧PBx w' abC o.t y'∧(x'.todS,y'.todS)=abO x.todS y.todS∧aI w w' (o.s :: o.t :: (blk x.ak ++ blk y.ak))∧(∀ g∈blk x'.ak,g∈blk x.ak)∧ ∀ g∈blk y'.ak,g∈blk y.ak∨w.heap.size≤g
theorem abN {W:World} {B:Nat} {o:gi} (h:W.heap[B]? =some (.cells (fz o) 205 (0,0))):W.cell? ⟨B,4,none⟩=some (.pointer (some ⟨o.s,0,none⟩))∧W.cell? ⟨B,5,none⟩=some (.pointer (some ⟨o.t,0,none⟩)):=by
 simp [World.cell?,h]
structure LkF (w:World) (o:gi) (x y:aM) (abn abC:Nat):Prop where
 ne:o.s≠o.t
 hx: ∀ g∈blk x.ak,g∉blk y.ak∧g≠o.s∧g≠o.t
 hy: ∀ g∈blk y.ak,g≠o.s∧g≠o.t
 lo:abn≤w.heap.size∧abC≤w.heap.size
 px:dj x.todS=true
 abw:dj y.todS=true
 lt:o.s < w.heap.size∧o.t < w.heap.size
theorem acN (o:gi) (x y:aM) (abn abC:Nat) (w:World) (hs:PBx w abn o.s x) (ht:PBx w abC o.t y) (hf:LkF w o x y abn abC):
  Calls J3 122 #[.agg (fz o)] w fun e w'=>ab8 w o x y abn abC e w':=by
 have HF:=aA hf;have hz:Below w.heap.size w (w.alloc (.cells (fz o) 205)):=(Kp _ _).alloc (Ki _) _;have HB:Hid ((w.alloc (.cells (fz o) 205)).heap[w.heap.size]? =some (.cells (fz o) 205 (0,0))∧PBx (w.alloc (.cells (fz o) 205)) abn o.s x∧PBx (w.alloc (.cells (fz o) 205)) abC o.t y∧Below w.heap.size w (w.alloc (.cells (fz o) 205))):=⟨Kj _ _,hs.below hz,ht.below hz,hz⟩
 have HI:Hid (PBx w abn o.s x∧PBx w abC o.t y):=⟨hs,ht⟩
 clear hs ht hf hz
 go_enter Tryz.func122,Tryz.ntmps122
 go_upto_region 1 with fail;generalize w.alloc (.cells (fz o) 205)=W0 at *;obtain ⟨l4,l5⟩:=abN HB.I.1;obtain ⟨u0,u1,u2,u3,u4⟩:=gE HB.I.2.1.box;obtain ⟨v0,v1,v2,v3,v4⟩:=gE HB.I.2.2.1.box;cases ab6:x.Mf
 ·rw [ab6] at u2
  by_cases hzl:x.Ma.length=0
  ·have HZ:Hid (abO x.todS y.todS=(x.todS,y.todS)):=by show _=_; unfold abO; simp only [ab6]; rw [if_neg (by decide),if_pos hzl]
   have hz2:decide (0 < x.Ma.length)=false:=decide_eq_false (by omega);have hz1: ¬ 0 < x.Ma.length:=by omega
   clear hzl ab6;go_wp2
   go_end0
   exact ⟨rfl,x,y,HB.I.2.1,HB.I.2.2.1,HZ.I.symm,aI.dI HB.I.2.2.2,fun g hg=>hg,fun g hg=> .inl hg⟩
  ·have hpx:=abT HF.I.px
   have hl1:x.Ma.length=1:=by have h5:=hpx.2.2.1 ab6; have h6:=hpx.2.2.2.2; rw [show x.todS.max=x.max from rfl] at *; omega
   have HZ:Hid (abO x.todS y.todS=(x.todS,abZ x.Ma y.todS)):=by show _=_; unfold abO; simp only [ab6]; rw [if_neg (by decide),if_neg hzl,List.take_of_length_le (by omega)]
   have hz2:decide (0 < x.Ma.length)=true:=decide_eq_true (by omega);have hz1:0 < x.Ma.length:=by omega
   obtain ⟨abo,hgi⟩: ∃ abo,x.ak=some ⟨abo,0,none⟩:=by
    rcases HB.I.2.1.mine.2 with ⟨-,h6⟩ | ⟨g,cap,cur,h6,-⟩
    ·omega
    ·simp only [LD] at h6
     exact ⟨g,h6.1⟩
   have HGI:=aA hgi;have Jt:=aA hl1;clear hzl ab6 hpx hl1 hgi;go_upto_region 3 with fail;clear l4 l5 u0 u1 u2 u3 u4 v0 v1 v2 v3 v4 hz1 hz2;have HS:Hid (W0.drew.heap[w.heap.size]? =some (.cells (fz o) 205 (0,0))∧W0.drew.heap[o.s]? =some (.cells (cW x) 85 (0,0))):=⟨HB.I.1,HB.I.2.1.box⟩
   refine Kr (S:=fun W=>W.heap[w.heap.size]? =some (.cells (fz o) 205 (0,0))∧W.heap[o.s]? =some (.cells (cW x) 85 (0,0))) (by kernel_rfl) HS.I (fun _=> ?_);have pI:Below W0.heap.size W0 W0.drew:=(Kp _ _).drew;replace HB:Hid (PBx W0.drew abn o.s x∧PBx W0.drew abC o.t y∧Below w.heap.size w W0.drew):=⟨HB.I.2.1.below pI,HB.I.2.2.1.below pI,HB.I.2.2.2.trans (pI.mono HB.I.2.2.2.size)⟩
   clear pI;generalize W0.drew=YI at *;refine tt 0 HS.I ?_;refine tt 1 HS.I ?_ (hy:=fun w0 hS0=>by obtain ⟨l4,l5⟩:=abN hS0.1; go_simp; try with_reducible rfl);refine tt 2 HS.I ?_;refine tt 3 HS.I ?_ (hy:=fun w0 hS0=>by obtain ⟨l4,l5⟩:=abN hS0.1; go_simp; try with_reducible rfl);refine tt 4 HS.I ?_;refine tt 5 HS.I ?_;refine tt 6 HS.I ?_ (hy:=fun w0 hS0=>by obtain ⟨u0,u1,u2,u3,u4⟩:=gE hS0.2; rw [HGI.I] at u4; go_simp; try with_reducible rfl)
   try simp only [pt,sb,s0,s1]
   refine L7 7 (fun Q hQ=> ?_);go_wp2_with fail;refine (acV ⟨abo,0,none⟩ x.Ma x.aq YI (by have:=Jt.I; omega) (by rw [← HGI.I]; exact nP HB.I.1.mine)).mono ?_;rintro e V1 ⟨a',c',rfl,ho,hb⟩;have hvs:=HB.I.2.2.size;have hlt:=HF.I.lt;have HV:Hid ((V1.heap[w.heap.size]? =some (.cells (fz o) 205 (0,0))∧V1.heap[o.s]? =some (.cells (cW x) 85 (0,0)))∧PBx V1 abn o.s x∧V1.heap[o.t]? =some (.cells (cW y) 85 (0,0))∧V1.ownsRow YI.heap.size 9 1 (.slice a' x.Ma.length c') x.Ma.length (bT.flat x.Ma)∧Below YI.heap.size YI V1):=⟨⟨(hb.block _ (J2.1 HS.I.1).1).trans HS.I.1,(hb.block _ (J2.1 HS.I.2).1).trans HS.I.2⟩,HB.I.1.below hb,(hb.block _ (by omega)).trans HB.I.2.1.box,ho,hb⟩
   clear ho hb hvs hlt;refine hQ.out _ _ HV.I.1 (fun _=> ?_);clear hQ Q
   try simp only [pt,sb,s0,s1]
   refine tt 8 HV.I.1 ?_;refine tt 9 HV.I.1 ?_;refine L7 10 (fun Q hQ=> ?_);obtain ⟨-,-,-,-,v4⟩:=gE HV.I.2.2.1;have f4:V1.frozen? ⟨o.t,4,none⟩=false:=by have h5:=HV.I.2.2.1; simp [World.frozen?,h5,cW]
   go_wp2_with fail;clear v4 f4;have hvs:=HB.I.2.2.size;have hlt:=HF.I.lt;have hlo:=HF.I.lo;have hnt: ∀ b,b≠o.t→(V1.setCell ⟨o.t,4,none⟩ (.slice a' x.Ma.length c')).heap[b]? =V1.heap[b]? :=fun b hb=>aH hb
   refine hQ.out _ _ ⟨(hnt _ (by omega)).trans HV.I.1.1,(hnt _ HF.I.ne).trans HV.I.1.2⟩ (fun _=> ?_);clear hQ Q;refine K3 (by kernel_rfl) ?_ _;have HE:Hid (ab8 w o x y abn abC (.returned (.tuple #[])) (V1.setCell ⟨o.t,4,none⟩ (.slice a' x.Ma.length c'))):=by
    have hlow: ∀ b∈blk a',YI.heap.size≤b:=fun b hb=>(cf HV.I.2.2.2.1 hb).1
    refine ⟨rfl,x,acg y x.Ma a' c',HV.I.2.1.same (hnt _ HF.I.ne) (fun b hb=>hnt b (HF.I.hx b hb).2.2),PBx.store HV.I.2.2.1 (cq HV.I.2.2.2.1 (by omega)) (fun hm=>by have:=hlow _ hm; omega),HZ.I.symm,?_,fun g hg=>hg,fun g hg=> .inr (by have:=hlow g hg; omega)⟩;have h5:aI w V1 (o.s :: o.t :: (blk x.ak ++ blk y.ak)):=aI.dI (HB.I.2.2.trans (HV.I.2.2.2.2.mono hvs));exact h5.trans (aI.set (vs:= [_]) (by simp))
   clear hnt hvs hlt hlo;go_wp2
   go_end0
   exact HE.I
 ·rw [ab6] at u2
  obtain ⟨-,pm2,-,-,pm5⟩:=abT HF.I.px;obtain ⟨tm1,tm2,-,-,tm5⟩:=abT HF.I.abw;obtain ⟨N,hN⟩: ∃ N,min x.Ma.length (ab4 y.todS)=N:=⟨_,rfl⟩
  have hN1:N≤x.Ma.length:=by omega
  have hmin:min (y.max - y.Ma.length) (x.Ma.length:Int)=(N:Int):=by rw [← hN]; unfold ab4; omega
  have HZ:Hid (abO x.todS y.todS=(abZ (x.Ma.drop N) x.todS,abZ (y.Ma ++ x.Ma.take N) y.todS)):=by show _=_; unfold abO; simp only [ab6,hN,if_true]
  have q1:x.Ma.length≤5:=by omega
  have q2:y.Ma.length≤5:=by omega
  have q3:(0:Int)≤y.max - y.Ma.length:=by omega
  have q4:y.max - y.Ma.length≤5:=by omega
  clear hN ab6;go_upto_region 4 with fail;clear l4 l5 u0 u1 u2 u3 u4 v0 v1 v2 v3 v4;have HS:Hid (W0.drew.heap[w.heap.size]? =some (.cells (fz o) 205 (0,0))∧W0.drew.heap[o.t]? =some (.cells (cW y) 85 (0,0))):=⟨HB.I.1,HB.I.2.2.1.box⟩
  refine Kr (S:=fun W=>W.heap[w.heap.size]? =some (.cells (fz o) 205 (0,0))∧W.heap[o.t]? =some (.cells (cW y) 85 (0,0))) (by kernel_rfl) HS.I (fun _=> ?_);have pI:Below W0.heap.size W0 W0.drew:=(Kp _ _).drew;replace HB:Hid (W0.drew.heap[w.heap.size]? =some (.cells (fz o) 205 (0,0))∧PBx W0.drew abn o.s x∧PBx W0.drew abC o.t y∧Below w.heap.size w W0.drew):=⟨HB.I.1,HB.I.2.1.below pI,HB.I.2.2.1.below pI,HB.I.2.2.2.trans (pI.mono HB.I.2.2.2.size)⟩
  clear pI;generalize W0.drew=YI at *;refine tt 0 HS.I ?_;refine tt 1 HS.I ?_ (hy:=fun w0 hS0=>by obtain ⟨l4,l5⟩:=abN hS0.1; go_simp; try with_reducible rfl);refine tt 2 HS.I ?_;refine tt 3 HS.I ?_;refine tt 4 HS.I ?_ (hy:=fun w0 hS0=>by obtain ⟨v0,v1,v2,v3,v4⟩:=gE hS0.2; go_simp; try with_reducible rfl);refine tt 5 HS.I ?_;refine tt 6 HS.I ?_ (hy:=fun w0 hS0=>by obtain ⟨l4,l5⟩:=abN hS0.1; go_simp; try with_reducible rfl);refine tt 7 HS.I ?_;refine tt 8 HS.I ?_;refine tt 9 HS.I ?_ (hy:=fun w0 hS0=>by obtain ⟨v0,v1,v2,v3,v4⟩:=gE hS0.2; go_simp; try with_reducible rfl);refine tt 10 HS.I ?_;refine tt 11 HS.I ?_;refine tt 12 HS.I ?_;refine K3 (by kernel_rfl) ?_ _;clear HS;obtain ⟨l4,l5⟩:=abN HB.I.1;obtain ⟨u0,u1,u2,u3,u4⟩:=gE HB.I.2.1.box;go_upto_region 6 with fail;rw [hmin];clear l4 l5 u0 u1 u2 u3 u4 hmin;have hvs:=HB.I.2.2.2.size;have hlt:=HF.I.lt;have HSZ:Hid (w.heap.size≤YI.heap.size∧o.s < w.heap.size∧o.t < w.heap.size):=⟨hvs,hlt⟩
  have hcap:x.Ma.length≤x.aq:=by
   rcases HB.I.2.1.mine.2 with ⟨-,h6⟩ | ⟨g,cap,cur,h6,-,-,h7,-⟩
   ·rw [h6]; exact Ky _
   ·simp only [LD] at h6; rw [h6.2.2]; exact h7
  have n1:(N:Int)≤(x.aq:Int):=by omega
  have n2:N≤x.aq:=by omega
  have n3:(0:Int)≤(N:Int):=by omega
  have n4:(N:Int)≤(x.Ma.length:Int):=by omega
  clear hcap hvs hlt;have HS:Hid (YI.drew.heap[w.heap.size]? =some (.cells (fz o) 205 (0,0))∧YI.drew.heap[o.s]? =some (.cells (cW x) 85 (0,0))):=⟨HB.I.1,HB.I.2.1.box⟩
  refine Kr (S:=fun W=>W.heap[w.heap.size]? =some (.cells (fz o) 205 (0,0))∧W.heap[o.s]? =some (.cells (cW x) 85 (0,0))) (by kernel_rfl) HS.I (fun _=> ?_);have pI:Below YI.heap.size YI YI.drew:=(Kp _ _).drew;replace HB:Hid (YI.drew.heap[w.heap.size]? =some (.cells (fz o) 205 (0,0))∧PBx YI.drew abn o.s x∧PBx YI.drew abC o.t y∧Below w.heap.size w YI.drew):=⟨HB.I.1,HB.I.2.1.below pI,HB.I.2.2.1.below pI,HB.I.2.2.2.trans (pI.mono HB.I.2.2.2.size)⟩
  replace HSZ:Hid (w.heap.size≤YI.drew.heap.size∧o.s < w.heap.size∧o.t < w.heap.size):=HSZ.I;clear pI;generalize YI.drew=V1 at *;refine tt 0 HS.I ?_;refine tt 1 HS.I ?_ (hy:=fun w0 hS0=>by obtain ⟨l4,l5⟩:=abN hS0.1; go_simp; try with_reducible rfl);refine tt 2 HS.I ?_;refine tt 3 HS.I ?_ (hy:=fun w0 hS0=>by obtain ⟨l4,l5⟩:=abN hS0.1; go_simp; try with_reducible rfl);refine tt 4 HS.I ?_;refine tt 5 HS.I ?_;refine tt 7 HS.I ?_;refine tt 8 HS.I ?_ (hy:=fun w0 hS0=>by obtain ⟨l4,l5⟩:=abN hS0.1; go_simp; try with_reducible rfl);refine tt 9 HS.I ?_;refine tt 10 HS.I ?_;refine tt 11 HS.I ?_ (hy:=fun w0 hS0=>by obtain ⟨u0,u1,u2,u3,u4⟩:=gE hS0.2; go_simp; try with_reducible rfl);refine tt 12 HS.I ?_;refine tt 13 HS.I ?_
  try simp only [pt,sb,s0,s1]
  refine L7 6 (fun Q hQ=> ?_);obtain ⟨-,-,-,-,v4⟩:=gE HB.I.2.2.1.box;go_wp2_with fail;clear v4;refine hQ.out _ _ HS.I (fun _=> ?_);clear hQ Q
  try simp only [pt,sb,s0,s1]
  have hlt:(x.Ma.take N).length=N:=by rw [Lk]; omega
  obtain ⟨a3,c3,w3,hr3,Bn,hg3,IJ⟩:=ou V1 abC y.ak y.aq y.Ma HB.I.2.2.1.mine x.ak (x.Ma.take N) x.aq (uM N (nP HB.I.2.1.mine)) (by rw [hlt]; omega) (by have:=HSZ.I.1; have:=HF.I.lo; omega);rw [hlt] at hr3;rw [← Lf] at Bn;have hlen:(y.Ma ++ x.Ma.take N).length=y.Ma.length+N:=by rw [Lf,hlt]
  have hkg:aI V1 w3 (blk y.ak):=aI.grown (Kp _ _) hg3;have HV:Hid ((w3.heap[w.heap.size]? =some (.cells (fz o) 205 (0,0))∧w3.heap[o.s]? =some (.cells (cW x) 85 (0,0)))∧PBx w3 abn o.s x∧w3.heap[o.t]? =some (.cells (cW y) 85 (0,0))∧w3.ownsRow abC 9 1 (.slice a3 (y.Ma ++ x.Ma.take N).length c3) (y.Ma ++ x.Ma.take N).length (bT.flat (y.Ma ++ x.Ma.take N))∧aI V1 w3 (blk y.ak)∧ ∀ g∈blk a3,g∈blk y.ak∨g=V1.heap.size):=by
   have hz:=HSZ.I;have hyl: ∀ g∈blk y.ak,g < w.heap.size:=fun g hg=>(cf HI.I.2.mine hg).2
   have e1:w3.heap[o.s]? =V1.heap[o.s]? :=hkg.same _ (by omega) fun hm=>(HF.I.hy _ hm).1 rfl
   have e2:w3.heap[o.t]? =V1.heap[o.t]? :=hkg.same _ (by omega) fun hm=>(HF.I.hy _ hm).2 rfl
   refine ⟨⟨(hkg.same _ (J2.1 HS.I.1).1 fun hm=>by have:=hyl _ hm; omega).trans HS.I.1,e1.trans HS.I.2⟩,HB.I.2.1.same e1 (fun b hb=>hkg.same b (cf HB.I.2.1.mine hb).2 (HF.I.hx b hb).1),e2.trans HB.I.2.2.1.box,Bn,hkg,IJ⟩
  have HR:=aA hr3;clear hr3 Bn hg3 IJ hkg;refine L7 14 (fun Q hQ=> ?_);refine cM _ _ 83 rfl _ _ _ w3 rfl rfl HR.I ?_;refine hQ.out _ _ HV.I.1 (fun _=> ?_);clear hQ Q HR
  try simp only [pt,sb,s0,s1]
  refine tt 15 HV.I.1 ?_;refine tt 16 HV.I.1 ?_;refine L7 17 (fun Q hQ=> ?_);obtain ⟨-,-,-,-,v4⟩:=gE HV.I.2.2.1;have f4:w3.frozen? ⟨o.t,4,none⟩=false:=by have h5:=HV.I.2.2.1; simp [World.frozen?,h5,cW]
  go_wp2_with fail;clear v4 f4;have HW:Hid (((w3.setCell ⟨o.t,4,none⟩ (.slice a3 (y.Ma.length+N) c3)).heap[w.heap.size]? =some (.cells (fz o) 205 (0,0))∧(w3.setCell ⟨o.t,4,none⟩ (.slice a3 (y.Ma.length+N) c3)).heap[o.s]? =some (.cells (cW x) 85 (0,0)))∧PBx (w3.setCell ⟨o.t,4,none⟩ (.slice a3 (y.Ma.length+N) c3)) abn o.s x∧PBx (w3.setCell ⟨o.t,4,none⟩ (.slice a3 (y.Ma.length+N) c3)) abC o.t (acg y (y.Ma ++ x.Ma.take N) a3 c3)∧aI w (w3.setCell ⟨o.t,4,none⟩ (.slice a3 (y.Ma.length+N) c3)) (o.t :: blk y.ak)∧w.heap.size < (w3.setCell ⟨o.t,4,none⟩ (.slice a3 (y.Ma.length+N) c3)).heap.size∧ ∀ g∈blk a3,g∈blk y.ak∨w.heap.size < g):=by
   rw [← hlen];have hz:=HSZ.I;have hv1:w.heap.size < V1.heap.size:=(J2.1 HS.I.1).1;have hnt: ∀ b,b≠o.t→(w3.setCell ⟨o.t,4,none⟩ (.slice a3 (y.Ma ++ x.Ma.take N).length c3)).heap[b]? =w3.heap[b]? :=fun b hb=>aH hb
   refine ⟨⟨(hnt _ (by omega)).trans HV.I.1.1,(hnt _ HF.I.ne).trans HV.I.1.2⟩,HV.I.2.1.same (hnt _ HF.I.ne) (fun b hb=>hnt b (HF.I.hx b hb).2.2),PBx.store HV.I.2.2.1 HV.I.2.2.2.1 (fun hm=> ?_),?_,?_,fun g hg=> ?_⟩
   ·rcases HV.I.2.2.2.2.2 _ hm with h5 | h5
    ·exact (HF.I.hy _ h5).2 rfl
    ·omega
   ·have h5:aI w w3 (o.t :: blk y.ak):=(aI.dI HB.I.2.2.2).trans (HV.I.2.2.2.2.1.mono fun g hg=>List.mem_cons_of_mem _ hg)
    exact h5.trans (aI.set (vs:= [_]) (by simp))
   ·have:=HV.I.2.2.2.2.1.size
    simp [World.setCell]; omega
   ·rcases HV.I.2.2.2.2.2 g hg with h5 | h5
    ·exact .inl h5
    ·exact .inr (by omega)
  generalize w3.setCell ⟨o.t,4,none⟩ (.slice a3 (y.Ma.length+N) c3)=V2 at *;refine hQ.out _ _ HW.I.1 (fun _=> ?_);clear hQ Q HV HS HB HSZ;refine K3 (by kernel_rfl) ?_ _;go_upto_region 7 with fail;refine Kr (S:=fun W=>W.heap[w.heap.size]? =some (.cells (fz o) 205 (0,0))) (by kernel_rfl) HW.I.1.1 (fun _=> ?_);have pI:Below V2.heap.size V2 V2.drew:=(Kp _ _).drew;have HX:Hid (V2.drew.heap[w.heap.size]? =some (.cells (fz o) 205 (0,0))∧PBx V2.drew abn o.s x∧PBx V2.drew abC o.t (acg y (y.Ma ++ x.Ma.take N) a3 c3)∧aI w V2.drew (o.t :: blk y.ak)∧w.heap.size < V2.drew.heap.size∧ ∀ g∈blk a3,g∈blk y.ak∨w.heap.size < g):=⟨HW.I.1.1,HW.I.2.1.below pI,HW.I.2.2.1.below pI,HW.I.2.2.2.1.trans (aI.dI pI),HW.I.2.2.2.2.1,HW.I.2.2.2.2.2⟩
  clear pI HW;generalize V2.drew=V3 at *;refine tt 0 HX.I.1 ?_;refine tt 1 HX.I.1 ?_ (hy:=fun w0 hS0=>by obtain ⟨l4,l5⟩:=abN hS0; go_simp; try with_reducible rfl);refine tt 2 HX.I.1 ?_;refine tt 3 HX.I.1 ?_ (hy:=fun w0 hS0=>by obtain ⟨l4,l5⟩:=abN hS0; go_simp; try with_reducible rfl);refine tt 4 HX.I.1 ?_;refine tt 5 HX.I.1 ?_;refine tt 7 HX.I.1 ?_
  try simp only [pt,sb,s0,s1]
  refine L7 6 (fun Q hQ=> ?_);obtain ⟨-,-,-,-,u4⟩:=gE HX.I.2.1.box;go_wp2_with fail;clear u4;refine hQ.out _ _ HX.I.1 (fun _=> ?_);clear hQ Q
  try simp only [pt,sb,s0,s1]
  refine L7 8 (fun Q hQ=> ?_);go_wp2_with fail;refine (adJ x.ak x.aq N abn x.Ma V3 hN1 (by omega) HX.I.2.1.mine).mono ?_;rintro e V4 ⟨rfl,ho4,hk4⟩;have hlt:=HF.I.lt;have hxl: ∀ g∈blk x.ak,g < w.heap.size:=fun g hg=>(cf HI.I.1.mine hg).2
  have hv3:=HX.I.2.2.2.2.1;have e0:V4.heap[w.heap.size]? =V3.heap[w.heap.size]? :=hk4.same _ (by omega) fun hm=>by have:=hxl _ hm; omega
  have e1:V4.heap[o.s]? =V3.heap[o.s]? :=hk4.same _ (by omega) fun hm=>(HF.I.hx _ hm).2.1 rfl
  have e2:V4.heap[o.t]? =V3.heap[o.t]? :=hk4.same _ (by omega) fun hm=>(HF.I.hx _ hm).2.2 rfl
  have hld:(x.Ma.drop N).length=x.Ma.length - N:=Ql;have HY:Hid (V4.heap[w.heap.size]? =some (.cells (fz o) 205 (0,0))∧V4.heap[o.s]? =some (.cells (cW x) 85 (0,0))∧PBx V4 abC o.t (acg y (y.Ma ++ x.Ma.take N) a3 c3)∧V4.ownsRow abn 9 1 (.slice x.ak (x.Ma.drop N).length x.aq) (x.Ma.drop N).length (bT.flat (x.Ma.drop N))∧aI w V4 (o.s :: o.t :: (blk x.ak ++ blk y.ak))):=by
   refine ⟨e0.trans HX.I.1,e1.trans HX.I.2.1.box,HX.I.2.2.1.same e2 (fun b hb=> ?_),by rw [hld]; exact ho4,?_⟩
   ·refine hk4.same b (cf HX.I.2.2.1.mine hb).2 fun hm=> ?_
    rcases HX.I.2.2.2.2.2 b hb with h5 | h5
    ·exact (HF.I.hx b hm).1 h5
    ·have:=hxl b hm; omega
   ·have h5:aI w V3 (o.s :: o.t :: (blk x.ak ++ blk y.ak)):=HX.I.2.2.2.1.mono fun g hg=>by
     rcases Kt.1 hg with rfl | hg
     ·simp
     ·simp [hg]
    exact h5.trans (hk4.mono fun g hg=>by simp [hg])
  clear e0 e1 e2 ho4 hk4;refine hQ.out _ _ HY.I.1 (fun _=> ?_);clear hQ Q
  try simp only [pt,sb,s0,s1]
  refine tt 9 HY.I.1 ?_;refine tt 10 HY.I.1 ?_;refine L7 11 (fun Q hQ=> ?_);obtain ⟨-,-,-,-,u4⟩:=gE HY.I.2.1;have f4:V4.frozen? ⟨o.s,4,none⟩=false:=by have h5:=HY.I.2.1; simp [World.frozen?,h5,cW]
  go_wp2_with fail;clear u4 f4;have hnt: ∀ b,b≠o.s→(V4.setCell ⟨o.s,4,none⟩ (.slice x.ak (x.Ma.length - N) x.aq)).heap[b]? =V4.heap[b]? :=fun b hb=>aH hb
  refine hQ.out _ _ ((hnt _ (by omega)).trans HY.I.1) (fun _=> ?_);clear hQ Q;refine K3 (by kernel_rfl) ?_ _;have HE:Hid (ab8 w o x y abn abC (.returned (.tuple #[])) (V4.setCell ⟨o.s,4,none⟩ (.slice x.ak (x.Ma.length - N) x.aq))):=by
   refine ⟨rfl,acg x (x.Ma.drop N) x.ak x.aq,acg y (y.Ma ++ x.Ma.take N) a3 c3,?_,HY.I.2.2.1.same (hnt _ (fun e=>HF.I.ne e.symm)) (fun b hb=>hnt b fun e=> ?_),HZ.I.symm,HY.I.2.2.2.2.trans (aI.set (vs:= [_]) (by simp)),fun g hg=>hg,fun g hg=> ?_⟩
   ·rw [← hld]
    exact PBx.store HY.I.2.1 HY.I.2.2.2.1 fun hm=>(HF.I.hx _ hm).2.1 rfl
   ·rcases HX.I.2.2.2.2.2 b hb with h5 | h5
    ·exact (HF.I.hy b h5).1 e
    ·omega
   ·rcases HX.I.2.2.2.2.2 g hg with h5 | h5
    ·exact .inl h5
    ·exact .inr (by omega)
  clear hnt hlt hxl hv3 hld;go_wp2
  go_end0
  exact HE.I
end
section
open Go.RowKit
attribute [local go_sem ↓] Kc Kd
structure ZU (w:World) (k:eA) (p:af) (W:World):Prop where
 src:W.heap[w.heap.size]? =some (.cells k.row 28 (0,0))
 aaj:W.heap[w.heap.size+1]? =some (.cells p.cells 68 (0,0))
 cd:Below w.heap.size w W
structure Y9 (W:World) (b:Nat) (k:eA) (u:kd) (g:Nat):Prop where
 own:gp W b k
 pure:k.pure=u
 win:k.vb=some ⟨g,0,none⟩
 lt:g < W.heap.size
section
variable {p:af} {k:eA} {u:kd} {w W U V:World} {B X b g:Nat} {bs:List Nat}
theorem ZU.below (h:ZU w k p U) (hb:Below U.heap.size U V):ZU w k p V:=⟨(hb.block _ (J2.1 h.src).1).trans h.src,(hb.block _ (J2.1 h.aaj).1).trans h.aaj,h.cd.trans (hb.mono h.cd.size)⟩
theorem ZU.lt (h:ZU w k p U):w.heap.size+1 < U.heap.size:=(J2.1 h.aaj).1
theorem ZU.kept (h:ZU w k p U) (hk:aI U V bs) (hs: ∀ g∈bs,w.heap.size+1 < g):ZU w k p V:=⟨(hk.same _ (J2.1 h.src).1 fun hm=>by have:=hs _ hm; omega).trans h.src,(hk.same _ (J2.1 h.aaj).1 fun hm=>by have:=hs _ hm; omega).trans h.aaj,h.cd.trans (hk.below h.cd.size fun g hg=>by have:=hs g hg; omega)⟩
theorem ZU.cells (h:ZU w k p W):W.cell? ⟨w.heap.size,0,none⟩=some (.int .i64 k.now)∧W.cell? ⟨w.heap.size,1,none⟩=some (.int .i64 k.major)∧W.cell? ⟨w.heap.size,2,none⟩=some (.slice k.vb k.fn.length k.Te)∧W.cell? ⟨w.heap.size,3,none⟩=some (.slice k.qn k.parts.length k.sa)∧W.cell? ⟨w.heap.size,4,none⟩=some (.slice k.qi k.eC.length k.tC):=by
 have h:=h.src;simp [World.cell?,h]
theorem Y9.below (h:Y9 U b k u g) (hb:Below U.heap.size U V):Y9 V b k u g:=⟨h.own.below hb,h.pure,h.win,by have:=hb.size; have:=h.lt; omega⟩
theorem abr (h:Hid (Tk U X k)) (hb:Below U.heap.size U V):Hid (Tk V X k):=(hb.block _ (J2.1 h.I).1).trans h.I
theorem abt (h:Hid (gp U b k)) (hb:Below U.heap.size U V):Hid (gp V b k):=h.I.below hb
theorem Wj.kept (h:Wj U X b k) (hk:aI U V bs) (hs:X∉bs) (ho: ∀ g∈k.Mc,g∉bs):Wj V X b k:=⟨(hk.same _ (J2.1 h.1).1 hs).trans h.1,h.2.same fun g hg=>hk.same g (h.2.lt hg).2 (ho g hg)⟩
end
theorem Zw (k k':eA) (w:World) (hs:k.pure.Small) (hp:k'.pure=k.pure) (h:eA.At w k) (h':eA.At w k'):
  Calls J3 12 #[.agg k.row,.agg k'.row] w fun e w'=>e= .returned (.bool true)∧Below w.heap.size w w':=
 Uj k k' w hs.Ts (by have:=hs.sC; simpa [eA.pure] using this) hs.w8 (fun _ hx=>pC hs hx) hp h h'
theorem aam:ZG.Small:=⟨Ky _,Ky _,Ky _,(fun j=>by simp [ZG,sz]),(fun x hx=>by cases hx),(fun x hx=>by cases hx)⟩
end
end Go.Proofs.YteidkehoekbcaaaGreat
