/- What the proof leans on, part 23. -/
import Derived.Test.YteidkehoekbcaaaGreatOwnK19
import Derived.Test.YteidkehoekbcaaaGreatOwnK21
set_option maxRecDepth 100000
set_option maxHeartbeats 8000000
open Go.Proofs.Tryz renaming prog->J3
open List renaming find?_some->PS,length_append->Lf,mem_cons->Kt,mem_flatMap->Rt,mem_map->Lr,mem_of_find?_eq_some->RG,nodup_append->Kf
open Nat renaming le_trans->LG
open Option renaming map_eq_some_iff->Kw
open Option.some renaming injEq->LF

namespace Go.Proofs.YteidkehoekbcaaaGreat
open Go.RowKit Go.Maps
attribute [local go_sem ↓] Go.wp_at_zero Go.wp_at_succ
structure T1 (w:World) (K b:Nat) (now:Int) (tab:Array Value) (a:Option Addr) (cap:Nat) (ls:List gi) (W:World):Prop where
 kept:aI w W [K]
 TN:W.rowIs K 107 65 (B3 now tab b a ls.length cap)
 own:W.ownsRow w.heap.size 205 6 (.slice a ls.length cap) ls.length (qo.flat ls)
section
variable {w W W2:World} {K b:Nat} {now:Int} {tab:Array Value} {a:Option Addr} {cap:Nat} {ls:List gi} {l:List (aZ × Nat)} {ps:List aE}
theorem T1.below (h:T1 w K b now tab a cap ls W) (hb:Below W.heap.size W W2):T1 w K b now tab a cap ls W2:=⟨h.kept.trans (.dI hb),h.TN.of_block (hb.block _ h.TN.lt),cR h.own hb⟩
structure VK (w:World) (K b:Nat) (l:List (aZ × Nat)):Prop where
 map:cF w b (l.map fun p=>(p.1.q.id,p.2))
 part: ∀ p∈l,∃ base,K < base∧cJ w base p.2 p.1
 nodup:(l.flatMap fun p=>p.1.lq.map (·.2)).Nodup
 kb:K≠b
 k:K < w.heap.size
theorem VK.kept (h:VK w K b l) (hk:aI w W [K]):VK W K b l:=
 ⟨h.map.same (hk.same b h.map.lt (by simp [h.kb.symm])),fun p hm=>by
  obtain ⟨bs,h1,h2⟩:=h.part p hm;exact ⟨bs,h1,h2.same fun g hg hl=>hk.same g hl (by simp; omega)⟩,h.nodup,h.kb,by have:=hk.size; have:=h.k; omega⟩
theorem T1.kmap (h:T1 w K b now tab a cap ls W) (hp:VK w K b l):KMap W K b l:=
 have h2:=hp.kept h.kept
 ⟨h.TN.cell (i:=63) (by omega),h2.map,fun p hm=>(h2.part p hm).imp fun _ h=>h.2⟩
theorem D3 (hp: ∀ p∈l,∃ base,cJ w base p.2 p.1) (hl:l.map (·.1.pure)=ps) (part id:Int):
  (kt l part id=none∧endP ps part id=none)∨ ∃ g x,kt l part id=some g∧endP ps part id=some (aM.todS x)∧w.heap[g]? =some (.cells (cW x) 85 (0,0)):=by
 subst hl;have e1:hP (fun x:aE=>x.id) part (l.map (·.1.pure))=(l.find? (fun p=>p.1.q.id == part)).map (·.1.pure):=by
  unfold hP;rw [List.find?_map]
  congr 2
 unfold kt endP;rw [e1];cases hf:l.find? (fun p=>p.1.q.id == part) with
 | none=>exact .inl ⟨rfl,rfl⟩
 | some q=>
  have e2:hP (fun x:dS=>x.id) id (q.1.lq.map (·.1.todS))=(q.1.lq.find? (fun p=>p.1.id == id)).map (·.1.todS):=by
   unfold hP;rw [List.find?_map]
   congr 2
  have e3:cz (RW (fun x:aM=>x.id) q.1.lq) id=(q.1.lq.find? (fun p=>p.1.id == id)).map (·.2):=by
   unfold cz RW;rw [List.find?_map,Option.map_map];rfl
  simp only [Option.map_some,Option.bind_some]
  show (cz (RW (fun x:aM=>x.id) q.1.lq) id=none∧hP (fun x:dS=>x.id) id (q.1.lq.map (·.1.todS))=none)∨_
  rw [e3,e2];cases hg:q.1.lq.find? (fun p=>p.1.id == id) with
  | none=>exact .inl ⟨rfl,rfl⟩
  | some r=>
   obtain ⟨bs,ho⟩:=hp q (RG hf);refine .inr ⟨r.2,r.1,rfl,?_,ho.ai.box r (RG hg)⟩
   show hP (fun x:dS=>x.id) id (q.1.lq.map (·.1.todS))=_
   rw [e2,hg];rfl
theorem TW {α β:Type} {f:α→List β} : ∀ {l:List α},(l.flatMap f).Nodup→ ∀ {x y:α} {g:β},x∈l→y∈l→g∈f x→g∈f y→x=y
 | [],_,_,_,_,h,_,_,_=>by cases h
 | z :: r,h,x,y,g,hx,hy,h1,h2=>by
  rw [List.flatMap_cons,Kf] at h;rcases Kt.1 hx with ex | hx'
  ·rcases Kt.1 hy with ey | hy'
   ·rw [ex,ey]
   ·exact absurd rfl (h.2.2 g (by rw [← ex]; exact h1) g (Rt.2 ⟨y,hy',h2⟩))
  ·rcases Kt.1 hy with ey | hy'
   ·exact absurd rfl (h.2.2 g (by rw [← ey]; exact h2) g (Rt.2 ⟨x,hx',h1⟩))
   ·exact TW h.2.1 hx' hy' h1 h2
theorem map_inj {α β:Type} {f:α→β} : ∀ {l:List α},(l.map f).Nodup→ ∀ {x y:α},x∈l→y∈l→f x=f y→x=y
 | [],_,_,_,h,_,_=>by cases h
 | z :: r,h,x,y,hx,hy,e=>by
  rw [List.map_cons,List.nodup_cons] at h;rcases Kt.1 hx with ex | hx'
  ·rcases Kt.1 hy with ey | hy'
   ·rw [ex,ey]
   ·exact absurd (Lr.2 ⟨y,hy',by rw [← e,ex]⟩) h.1
  ·rcases Kt.1 hy with ey | hy'
   ·exact absurd (Lr.2 ⟨x,hx',by rw [e,ey]⟩) h.1
   ·exact map_inj h.2 hx' hy' e
theorem vl {α β:Type} {f:α→List β} : ∀ {l:List α},(l.flatMap f).Nodup→ ∀ {x:α},x∈l→(f x).Nodup
 | [],_,_,h=>by cases h
 | z :: r,h,x,hx=>by
  rw [List.flatMap_cons,Kf] at h;rcases Kt.1 hx with rfl | hx
  ·exact h.1
  ·exact vl h.2.1 hx
theorem TC {part id:Int} {g:Nat} (h:kt l part id=some g): ∃ q∈l,q.1.q.id=part∧ ∃ x∈q.1.lq,x.2=g∧x.1.id=id:=by
 unfold kt at h;cases hf:l.find? (fun p=>p.1.q.id == part) with
 | none=>rw [hf] at h; cases h
 | some q=>
  rw [hf] at h;simp only [cz,RW,List.find?_map,Option.map_map,Kw] at h;obtain ⟨x,hx,e⟩:=h;exact ⟨q,RG hf,by simpa using PS hf,x,RG hx,e,by simpa using PS hx⟩
theorem UP (hn:(l.flatMap fun p=>p.1.lq.map (·.2)).Nodup) {p p' i i':Int} {g:Nat} (h:kt l p i=some g) (h':kt l p' i'=some g):p=p'∧i=i':=by
 obtain ⟨q,hq,rfl,x,hx,e,rfl⟩:=TC h;obtain ⟨q',hq',rfl,x',hx',e',rfl⟩:=TC h';have h1:=TW hn hq hq' (Lr.2 ⟨x,hx,e⟩) (Lr.2 ⟨x',hx',e'⟩);subst h1;have h2:=map_inj (vl hn hq) hx hx' (e.trans e'.symm);subst h2;exact ⟨rfl,rfl⟩
theorem VC {a:Option Addr} {n c g:Nat} (h:(Value.slice a n c).ownBlock=some g):g∈blk a:=by
 cases a with
 | none=>simp [Value.ownBlock] at h
 | some ad=>simpa [Value.ownBlock,blk,eq_comm] using h
theorem U8:(Tryz.prog.info? 205).map (fun i=>(i.zero,i.size,i.bytes))=some (some (.agg #[.int .i64 0,.int .i64 0,.int .i64 0,.int .i64 0,.pointer none,.pointer none]),6,48):=by kernel_rfl
theorem Vc {base:Nat} (m:gi) (ho:W.ownsRow base 205 6 (.slice a ls.length cap) ls.length (qo.flat ls)) (hn:ls.length≤10) (hb:base≤W.heap.size):
  ∃ a' cap' w',(Builtin.append_ #[105,105] 105 #[.slice a ls.length cap,.slice (some ⟨W.heap.size,0,none⟩) 1 1]).run J3 (W.alloc (.cells (fz m) 205))= .ok (.slice a' (ls.length+1) cap') w'∧w'.ownsRow base 205 6 (.slice a' (ls.length+1) cap') (ls.length+1) (qo.flat (ls ++ [m]))∧aI W w' (blk a):=by
 have hz:Below W.heap.size W (W.alloc (.cells (fz m) 205)):=(Below.refl _ _).alloc (Nat.le_refl _) _;obtain ⟨i,hi,e⟩:=Kw.1 U8;simp only [Prod.mk.injEq] at e;have hcell: ∀ j u,(tA m)[j]? =some u→(W.alloc (.cells (fz m) 205)).cell? ((⟨W.heap.size,0,none⟩:Addr).add j)=some u:=fun j u hu=>by
  have h1:(W.alloc (.cells (fz m) 205)).heap[W.heap.size]? =some (.cells (fz m) 205 (0,0)):=heap_alloc_new _ _;have h2:(fz m)[j]? =some u:=by rw [← Array.getElem?_toList]; exact hu
  rw [qZ];unfold World.cell?;rw [h1];exact h2
 obtain ⟨v',w',hr,ho',hg,-,-⟩:=run_append_own_at (P:=J3) (W.alloc (.cells (fz m) 205)) base 105 105 205 i _ 6 48 Tryz.underlying105 hi e.1 e.2.1 e.2.2 rfl (by decide) (.slice a ls.length cap) ls.length (qo.flat ls) (cR ho hz) ⟨W.heap.size,0,none⟩ 1 1 (tA m) rfl hcell (fun u hu=>by
  simp only [tA,Kt,List.not_mem_nil,or_false] at hu;rcases hu with rfl | rfl | rfl | rfl | rfl | rfl <;> rfl) (by unfold maxLen; omega) (by omega) (by have:=hz.size; omega)
 obtain ⟨a',cap',rfl,-⟩:=cr ho';have aS:qo.flat (ls ++ [m])=qo.flat ls ++ tA m:=by simp [Kind.flat,qo]
 refine ⟨a',cap',w',hr,by rw [aS]; exact ho',⟨hg.os,hg.tape,hg.output,LG hz.size hg.size,fun g hgl hgn=> ?_⟩⟩;have h1:=hz.block g hgl;rw [← h1];exact hg.block g (by have:=hz.size; omega) fun e=>hgn (VC e.symm)
theorem T1.more {a2:Option Addr} {Ta:Nat} {W7:World} {m:gi} (h:T1 w K b now tab a cap ls W) (hK:K < w.heap.size) (ho:W7.ownsRow w.heap.size 205 6 (.slice a2 (ls.length+1) Ta) (ls.length+1) (qo.flat (ls ++ [m]))) (hk:aI W W7 (blk a)):T1 w K b now tab a2 Ta (ls ++ [m]) (W7.setCell ⟨K,64,none⟩ (.slice a2 (ls.length+1) Ta)):=by
 have hlow: ∀ g∈blk a,w.heap.size≤g:=fun g hg=>(cf h.own hg).1
 have hr:W7.rowIs K 107 65 (B3 now tab b a ls.length cap):=h.TN.of_block (hk.same K h.TN.lt fun hm=>by have:=hlow K hm; omega);have h7:aI w W7 [K] :=⟨hk.os.trans h.kept.os,hk.tape.trans h.kept.tape,hk.output.trans h.kept.output,LG h.kept.size hk.size,fun g hg hn=>(hk.same g (by have:=h.kept.size; omega) fun hm=>by have:=hlow g hm; omega).trans (h.kept.same g hg hn)⟩
 refine ⟨h7.trans (aI.set (off:=64) [_] (by simp)),?_,?_⟩
 ·rw [Lf,List.length_singleton]
  refine (hr.set 64 _).congr fun j hj=> ?_
  unfold B3;by_cases e:j=64
  ·subst e; simp
  ·simp [e]
 ·rw [Lf,List.length_singleton]
  exact aL ho fun g hg=>Go.Deep.blk_setCell_other _ _ _ _ (by have:=(cf ho hg).1; show g≠K; omega)
def Joins (l:List (aZ × Nat)) (o:gi):Prop:=kt l o.c.src o.c.ga=some o.s∧kt l o.c.dst o.c.hI=some o.t
theorem Joins.at (hp: ∀ p∈l,∃ base,cJ w base p.2 p.1) (hl:l.map (·.1.pure)=ps) {o:gi} (h:Joins l o):rl w o:=by
 rcases D3 hp hl o.c.src o.c.ga with ⟨h1,-⟩ | ⟨g,x,h1,-,hx⟩
 ·rw [h.1] at h1; cases h1
 rcases D3 hp hl o.c.dst o.c.hI with ⟨h2,-⟩ | ⟨g2,y,h2,-,hy⟩
 ·rw [h.2] at h2; cases h2
 have e1:=h.1.symm.trans h1;have e2:=h.2.symm.trans h2;simp only [LF] at e1 e2;rw [← e1] at hx;rw [← e2] at hy;exact ⟨x,y,hx,hy⟩
theorem Ur {α:Type} {f g:α→Bool} : ∀ {l:List α},(∀ x∈l,f x=g x)→l.any f=l.any g
 | [],_=>rfl
 | x :: r,h=>by simp only [List.any_cons]; rw [h x (by simp),Ur fun y hy=>h y (by simp [hy])]
theorem TA (hn:(l.flatMap fun p=>p.1.lq.map (·.2)).Nodup) {p p' i i':Int} {g g':Nat} (h:kt l p i=some g) (h':kt l p' i'=some g'):decide (g=g')=(decide (p'=p) && decide (i'=i)):=by
 by_cases e:g=g'
 ·subst e
  obtain ⟨rfl,rfl⟩:=UP hn h h';simp
 ·rw [decide_eq_false e]
  by_cases e1:p'=p
  ·by_cases e2:i'=i
   ·subst e1 e2
    rw [h] at h';cases h';exact absurd rfl e
   ·simp [e2]
  ·simp [e1]
theorem Ub (hn:(l.flatMap fun p=>p.1.lq.map (·.2)).Nodup) {m:gi} (hm:Joins l m) (hL: ∀ o∈ls,Joins l o):ls.any (ts m (zo ps m.c))=(ls.map (·.c)).any (hR ps m.c):=by
 rw [List.any_map];refine Ur fun o ho=> ?_
 unfold ts
 show _=hR ps m.c o.c
 unfold hR;rw [TA hn hm.2 (hL o ho).2,TA hn hm.1 (hL o ho).1]
end
end Go.Proofs.YteidkehoekbcaaaGreat
