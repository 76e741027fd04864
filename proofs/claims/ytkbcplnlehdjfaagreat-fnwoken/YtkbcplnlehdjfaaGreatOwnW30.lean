/- What the proof leans on, part 30. -/
import Derived.Test.YtkbcplnlehdjfaaGreatOwnW29
set_option maxRecDepth 100000
set_option maxHeartbeats 8000000
open Array renaming getElem?_eq_some_iff->J2
open Bool renaming and_eq_true->J7,or_eq_true->Kb
open Function renaming comp_def->Ls
open Go renaming heap_alloc_new->Kj
open Go.ByteArray renaming toList_eq->PQ
open Go.Proofs.Tryz renaming prog->J3
open Int renaming le_refl->LJ
open List renaming getElem?_eq_getElem->Kz,getElem?_eq_some_iff->Lj,length_filter_le->Qq,map_map->Lv,mem_append->Kg,mem_cons->Kt,mem_filterMap->Lq,mem_iff_getElem->LK,mem_map->Lr,pairwise_map->Qm,take_append_drop->Qn
open Nat renaming le_refl->Ki,zero_le->Ky
open Option renaming map_eq_some_iff->Kw,map_some->J9
open Option.some renaming injEq->LF
open Prod.mk renaming injEq->Kx

namespace Go.Proofs.YtkbcplnlehdjfaaGreat
section
open Go.RowKit Go.Maps
theorem cJ.lt {w:World} {base o:Nat} {S:aZ} (h:cJ w base o S): ∀ c∈o :: (S.boxes ++ S.kids),c < w.heap.size:=fun c hc=>by
 simp only [aZ.boxes,aZ.kids,Kt,Kg] at hc;rcases hc with rfl | ((hc | hc | hc | hc | hc | hc) | hc | hc | hc)
 ·exact (J2.1 h.opn).1
 ·exact h.L8.lt c (Kt.2 hc)
 ·exact h.aj.lt c (Kt.2 hc)
 ·exact h.L9.lt c (Kt.2 hc)
 ·exact h.ag.lt c (Kt.2 hc)
 ·exact h.ae.lt c (Kt.2 hc)
 ·exact h.ai.lt c (Kt.2 hc)
 ·obtain ⟨r,hr,hk⟩:=Lq.1 hc
  exact ((h.eI r hr).lt hk).2
 ·obtain ⟨r,hr,hk⟩:=Lq.1 hc
  exact ((h.eE r hr).lt hk).2
 ·obtain ⟨r,hr,hk⟩:=Lq.1 hc
  exact ((h.eR r hr).lt hk).2
end
theorem sr {α:Type} {num:α→Int} {ok:α→Bool} : ∀ {l:List α} {last:Int},(∀ x∈l,cv (num x) 1 1000=true∧ok x=true)→(∀ x∈l,last < num x)→l.Pairwise (fun x y=>num x < num y)→aw num ok last l=true
 | [],_,_,_,_=>rfl
 | x :: r,last,h1,h2,h3=>by
  obtain ⟨h4,h5⟩:=List.pairwise_cons.1 h3;simp only [aw,J7,decide_eq_true_eq];exact ⟨⟨⟨(h1 x (by simp)).1,h2 x (by simp)⟩,(h1 x (by simp)).2⟩,sr (fun y hy=>h1 y (by simp [hy])) h4 h5⟩
theorem nj {α:Type} {num:α→Int} {ok:α→Bool} {l:List α} {last id:Int} {f:α→α} (h:aw num ok last l=true) (hf: ∀ x,num (f x)=num x) (ho: ∀ x∈l,num x=id→ok (f x)=true):aw num ok last (jP num id f l)=true:=by
 obtain ⟨h1,h2⟩:=db h;have h3:=cK h;have e: ∀ z:α,num (if num z=id then f z else z)=num z:=fun z=>by split <;> simp [hf]
 refine sr (fun y hy=> ?_) (fun y hy=> ?_) ?_
 ·obtain ⟨z,hz,rfl⟩:=Lr.1 hy
  refine ⟨by rw [e]; exact (h3 z hz).1,?_⟩
  split
  ·exact ho z hz ‹_›
  ·exact (h3 z hz).2
 ·obtain ⟨z,hz,rfl⟩:=Lr.1 hy
  rw [e]; exact h1 z hz
 ·unfold jP
  rw [Qm];exact h2.imp fun {a b} hab=>by rw [e,e]; exact hab
theorem vN {α:Type} {num:α→Int} {id:Int} {f:α→α} (hf: ∀ x,num (f x)=num x) (l:List α):(jP num id f l).map num=l.map num:=by
 unfold jP;rw [Lv];refine List.map_congr_left fun z _=> ?_
 simp only [Ls]
 split <;> simp [hf]
section
variable {p:aE}
theorem aQ.proc (h:aQ p) {x:aD} (hx:x∈p.L8):cv x.id 1 1000=true∧cH x=true∧fF p.next x=true∧dG p x=true:=by
 obtain ⟨h1,h2⟩:=cK h.L8 x hx;simp only [J7] at h2;exact ⟨h1,h2.1.1,h2.1.2,h2.2⟩
theorem aQ.kW (h:aQ p):p.L8.Pairwise (fun x y=>x.id < y.id):=(db h.L8).2
theorem aQ.ju {id nx:Int} {f:aD→aD} (h:aQ p) (hid: ∀ x,(f x).id=x.id) (hn:p.next≤nx∧nx≤1000000000)
  (hx: ∀ x∈p.L8,x.id=id→cH (f x)=true∧fF nx (f x)=true∧dG p (f x)=true∧((f x).RU=x.RU∨(f x).RU=0∨(f x).RU=p.next)):aQ { p with next:=nx,L8:=ce id f p.L8 } :=by
 have hnx:=bz.1 h.next;have e: ∀ z:aD,(if z.id=id then f z else z).id=z.id:=fun z=>by split <;> simp [hid]
 refine ⟨h.id,(show cv nx 1 1000000000=true from eB (by omega) hn.2),by simpa [ce] using h.dl,h.fx,h.cD,h.cC,h.cb,h.dH,?_,h.aj,h.L9,h.ag,h.ae,h.ai,?_⟩
 ·obtain ⟨h1,h2⟩:=db h.L8
  refine sr (fun y hy=> ?_) (fun y hy=> ?_) ?_
  ·obtain ⟨z,hz,rfl⟩:=Lr.1 hy
   refine ⟨by rw [e]; exact (h.proc hz).1,?_⟩;simp only [J7]
   split
   ·rename_i hi
    obtain ⟨k1,k2,k3,-⟩:=hx z hz hi;exact ⟨⟨k1,k2⟩,k3⟩
   ·obtain ⟨-,k1,k2,k3⟩:=h.proc hz
    refine ⟨⟨k1,?_⟩,k3⟩;unfold fF at k2 ⊢;simp only [Kb,decide_eq_true_eq] at k2 ⊢;rcases k2 with k2 | k2
    ·exact .inl k2
    ·have:=bz.1 k2; exact .inr (eB (by omega) (by show _≤nx - 1; omega))
  ·obtain ⟨z,hz,rfl⟩:=Lr.1 hy
   rw [e]; exact h1 z hz
  ·show (ce id f p.L8).Pairwise _
   exact rW hid h2
 ·have hs: ∀ z∈p.L8,z.RU < p.next∧0≤z.RU:=fun z hz=>by
   obtain ⟨-,k1,k2,-⟩:=h.proc hz;by_cases h0:z.Md=0
   ·have:=kx k1 h0; omega
   ·unfold fF at k2
    simp only [Kb,decide_eq_true_eq,h0,false_or] at k2
    have:=bz.1 k2; omega
  have ha:=h.apart;unfold rb at ha ⊢
  show ((ce id f p.L8).map (·.RU)).Pairwise _
  unfold ce;rw [Lv,Qm];rw [Qm] at ha;refine List.Pairwise.imp_of_mem (fun {a b} ham wU hab=> ?_) (ha.and h.kW);obtain ⟨h1,h2⟩:=hab;have sa:=hs a ham;have sb:=hs b wU;simp only [Ls];by_cases ea:a.id=id
  ·rw [if_pos ea,if_neg (by omega)]
   obtain ⟨-,-,-,k⟩:=hx a ham ea;rintro ⟨u,v⟩;rcases k with k | k | k
   ·rw [k] at u; exact h1 ⟨u,v⟩
   ·omega
   ·omega
  ·rw [if_neg ea]
   by_cases eb:b.id=id
   ·rw [if_pos eb]
    obtain ⟨-,-,-,k⟩:=hx b wU eb;rintro ⟨u,v⟩;rcases k with k | k | k
    ·rw [k] at u v; exact h1 ⟨u,v⟩
    ·omega
    ·omega
   ·rw [if_neg eb]; exact h1
theorem aQ.GD {l:List bD} (h:aQ p) (hi:l.map (·.id)=p.aj.map (·.id)) (hr:aw (·.id) gw 0 l=true):aQ { p with aj:=l } :=by
 have hw:dG { p with aj:=l } =dG p:=by funext x; simp only [dG,hasB,hi]
 have hl:l.length=p.aj.length:=by simpa using congrArg List.length hi
 exact ⟨h.id,h.next,h.dl,by show l.length≤5; rw [hl]; exact h.fx,h.cD,h.cC,h.cb,h.dH,by rw [hw]; exact h.L8,hr,h.L9,h.ag,h.ae,h.ai,h.apart⟩
theorem aQ.Cz {l:List aB} (h:aQ p) (hi:l.map (·.id)=p.L9.map (·.id)) (hr:aw (·.id) ey 0 l=true):aQ { p with L9:=l } :=by
 have hw:dG { p with L9:=l } =dG p:=by funext x; simp only [dG,hasB,hi]
 have hl:l.length=p.L9.length:=by simpa using congrArg List.length hi
 exact ⟨h.id,h.next,h.dl,h.fx,by show l.length≤5; rw [hl]; exact h.cD,h.cC,h.cb,h.dH,by rw [hw]; exact h.L8,h.aj,hr,h.ag,h.ae,h.ai,h.apart⟩
theorem aQ.C5 {l:List az} (h:aQ p) (hi:l.map (·.id)=p.ag.map (·.id)) (hr:aw (·.id) cU 0 l=true):aQ { p with ag:=l } :=by
 have hw:dG { p with ag:=l } =dG p:=by funext x; simp only [dG,hasB,hi]
 have hl:l.length=p.ag.length:=by simpa using congrArg List.length hi
 exact ⟨h.id,h.next,h.dl,h.fx,h.cD,by show l.length≤5; rw [hl]; exact h.cC,h.cb,h.dH,by rw [hw]; exact h.L8,h.aj,h.L9,hr,h.ae,h.ai,h.apart⟩
theorem aQ.Cb {l:List ci} (h:aQ p) (hi:l.map (·.id)=p.ae.map (·.id)) (hr:aw (·.id) ct 0 l=true):aQ { p with ae:=l } :=by
 have hw:dG { p with ae:=l } =dG p:=by funext x; simp only [dG,hasB,hi]
 have hl:l.length=p.ae.length:=by simpa using congrArg List.length hi
 exact ⟨h.id,h.next,h.dl,h.fx,h.cD,h.cC,by show l.length≤5; rw [hl]; exact h.cb,h.dH,by rw [hw]; exact h.L8,h.aj,h.L9,h.ag,hr,h.ai,h.apart⟩
theorem aQ.Es {l:List dS} (h:aQ p) (hi:l.map (·.id)=p.ai.map (·.id)) (hr:aw (·.id) dj 0 l=true):aQ { p with ai:=l } :=by
 have hw:dG { p with ai:=l } =dG p:=by funext x; simp only [dG,hasB]
 have hl:l.length=p.ai.length:=by simpa using congrArg List.length hi
 exact ⟨h.id,h.next,h.dl,h.fx,h.cD,h.cC,h.cb,by show l.length≤5; rw [hl]; exact h.dH,by rw [hw]; exact h.L8,h.aj,h.L9,h.ag,h.ae,hr,h.apart⟩
end
def jY (x:aD):Bool:=cv x.RX 1 50 && jm x.prog && bw x.held && bw x.got && cv x.code 0 3
theorem fG (x:aD):cH x=(jY x && bO x):=rfl
theorem jX:bw rM=true:=by decide
theorem oB:bI rM=true:=by simp [bI,rM,PQ]
theorem iT {x:aD} (h:cH x=true) (h0: ¬ x.Md=0):0≤x.pc∧x.pc < x.prog.length:=by
 rw [fG,J7] at h;have h3:=h.2;unfold bO at h3;have h4:dU x=true:=by
  rw [if_neg h0] at h3
  split at h3
  ·simp only [J7] at h3; exact h3.1.1.1.1
  ·split at h3
   ·simp only [J7] at h3; exact h3.1.1.1.1
   ·split at h3
    ·simp only [J7] at h3; exact h3.1.1
    ·split at h3
     ·simp only [J7] at h3; exact h3.1.1.1
     ·cases h3
 have h5:=bz.1 h4;omega
theorem yG {l:List dN} (h:jm l=true) {i:Nat} {o:dN} (ho:l[i]? =some o):kc o=true:=by
 unfold jm nq at h;have h1:=(of_decide_eq_true h).2.2 i (Lj.1 ho).1;unfold j8 Cd Cg Ea Ce at h1;rw [ho] at h1;exact h1
theorem lK {l:List dN} (h:jm l=true):1≤l.length∧l.length≤20:=by
 unfold jm nq at h;have h1:=of_decide_eq_true h;exact ⟨h1.1,h1.2.1⟩
theorem mr {x:aD} (hp:jm x.prog=true) (hs:x.Md=1) (hc:0≤x.pc∧x.pc < x.prog.length) (hl:x.left=0) (hw:x.Mg=0) (ho:x.on=0) (hh:bI x.held=true):bO x=true:=by
 unfold bO;rw [if_neg (by omega),if_pos hs,hw,ho,hh];have h1:dU x=true:=eB hc.1 (by omega);have h2:jJ x=true:=by
  unfold jJ;rw [hl]
  split
  ·rename_i hk
   unfold opAt at hk ⊢;have h3:x.pc.toNat < x.prog.length:=by omega
   rw [Kz h3] at hk ⊢;simp only [Option.getD_some] at hk ⊢;have h4:=yG hp (Kz h3);unfold kc mQ at h4;rw [hk] at h4;have h5:cv (x.prog[x.pc.toNat]).2.1 1 1000=true:=by simp at h4; exact h4.1.1
   have:=bz.1 h5
   simp only [J7,decide_eq_true_eq];omega
  ·rfl
 rw [h1,h2]; rfl
theorem vQ {x:aD} (h:jY x=true):cH (j7 x)=true:=by
 rw [fG,J7];constructor
 ·unfold jY at h ⊢
  simp only [J7] at h ⊢;exact ⟨⟨⟨h.1.1.1,jX⟩,h.1.2⟩,h.2⟩
 ·unfold bO j7
  simp [oB]
theorem vF {x:aD} {code s:Int} (h:jY x=true) (hc:cv code 0 3=true) (h0:0≤x.pc) (h1:x.pc+1 < x.prog.length):cH { jM code x with RU:=s } =true:=by
 rw [fG,J7];unfold jY at h ⊢;simp only [J7] at h ⊢;refine ⟨⟨⟨⟨h.1.1.1,jX⟩,h.1.2⟩,hc⟩,mr (x:= { jM code x with RU:=s }) h.1.1.1.2 rfl ⟨by show 0≤x.pc+1; omega,h1⟩ rfl rfl rfl oB⟩
section
open Go.RowKit Go.Maps
def ld (w:World) (a:Option Addr) (xs:List Value):Prop:= ∀ j u,xs[j]? =some u→ ∃ ad,a=some ad∧w.cell? (ad.add j)=some u
theorem ld.nil {w:World} {a:Option Addr} :ld w a [] :=fun j u hu=>by cases hu
theorem ld.none {w:World} {xs:List Value} (h:ld w none xs):xs= [] :=by
 cases xs with
 | nil=>rfl
 | cons u r=>
  obtain ⟨ad,e,_⟩:=h 0 u rfl;cases e
theorem jD {P:Program} (w:World) (base:Nat) (t ty e:TypeId) (i:TypeInfo) (z:Value) (size bytes:Nat) (ht:P.underlying t=some (.slice e)) (hi:P.info? e=some i) (hz:i.zero=some z)
  (hsize:i.size=size) (hby:i.bytes=bytes) (hzs:z.cells.size=size) (hsz:0 < size) (a0:Option Addr) (n0 c0:Nat) (ys:List Value) (ho:w.ownsRow base e size (.slice a0 n0 c0) n0 ys)
  (a:Option Addr) (n cap:Nat) (xs:List Value) (h:ld w a xs) (hl:xs.length=n * size) (h1: ∀ u∈xs,u.oneCell'=true) (h63:n0+n≤4000000) (hb:bytes≤1000) (lY:base≤w.heap.size):
  ∃ a' cap' w',(Builtin.append_ #[t,t] ty #[.slice a0 n0 c0,.slice a n cap]).run P w= .ok (.slice a' (n0+n) cap') w'∧w'.ownsRow base e size (.slice a' (n0+n) cap') (n0+n) (ys ++ xs)∧w.grownBy w' (Value.slice a0 n0 c0).ownBlock∧ ∀ g∈blk a',g∈blk a0∨g=w.heap.size:=by
 cases a with
 | none=>
  have hx:=h.none;subst hx;have hn:n=0:=by
   cases n with
   | zero=>rfl
   | succ n=>simp only [List.length_nil,Nat.succ_mul] at hl; omega
  subst hn;refine ⟨a0,c0,w,?_,by simpa using ho,⟨rfl,rfl,rfl,Ki _,fun _ _ _=>rfl⟩,fun g hg=> .inl hg⟩;have hc:n0≤c0:=by
   obtain ⟨-,⟨e1,e2⟩ | ⟨g,c,cur,e1,-,-,h5,-⟩⟩:=ho
   ·cases e1; exact Ki _
   ·cases e1; exact h5
  cases a0 <;> simp [Builtin.append_,run_underlying ht,sizeOf,typeInfo,hi,Builtin.lenOf,Builtin.firstCells,storeCells,hc]
 | some ad=>
  have hnews: ∀ j u,xs[j]? =some u→w.cell? (ad.add j)=some u:=fun j u hu=>by
   obtain ⟨ad',e',hc⟩:=h j u hu;cases e';exact hc
  obtain ⟨v',w',hr,ho',hgr,-,hbl⟩:=run_append_own_at (P:=P) w base t ty e i z size bytes ht hi hz hsize hby hzs hsz (.slice a0 n0 c0) n0 ys ho ad n cap xs hl hnews h1 (by unfold maxLen; omega) (by have:=Nat.mul_le_mul h63 hb; omega) lY;obtain ⟨a',cap',rfl,-⟩:=cr ho';refine ⟨a',cap',w',hr,ho',hgr,fun g hg=> ?_⟩;rw [fZ] at hg ⊢;cases a' with
  | none=>cases hg
  | some ad'=>
   simp only [J9,LF] at hg;subst hg;rcases hbl with hbl | hbl
   ·refine .inl ?_
    cases a0 with
    | none=>cases hbl
    | some ad0=>simpa [Value.ownBlock] using hbl.symm
   ·exact .inr (by simpa [Value.ownBlock] using hbl)
theorem qv {Z A A' R:List Nat} (h:(Z ++ (A ++ R)).Nodup) (hA:A'.Nodup) (h1: ∀ g∈A',g∉Z ++ (A ++ R)):(Z ++ (A' ++ R)).Nodup:=by
 simp only [Kg,not_or] at h1;simp only [List.nodup_append,Kg] at h ⊢;obtain ⟨hz,⟨-,hR,-⟩,hzz⟩:=h;refine ⟨hz,⟨hA,hR,fun a ha b hb e=>(h1 a ha).2.2 (e ▸ hb)⟩,fun a ha b hb e=> ?_⟩;rcases hb with hb | hb
 ·exact (h1 b hb).1 (e ▸ ha)
 ·exact hzz a ha b (.inr hb) e
theorem Hj (g m j:Nat):(⟨g,m,none⟩:Addr).add j=⟨g,m+j,none⟩:=by unfold Addr.add; split <;> simp_all
theorem FH {α:Type} {K:Kind α} {w:World} {a:Option Addr} {l:List α} (k:Nat) (h:Row w a (K.flat l)):ld w (a.map (·.add (k * K.n))) (K.flat (l.drop k)):=fun j u hu=>by
 by_cases hk:k≤l.length
 ·have e:K.flat l=K.flat (l.take k) ++ K.flat (l.drop k):=by rw [← K.dc,Qn]
  have hl:(K.flat (l.take k)).length=k * K.n:=by rw [K.dM,List.length_take,Nat.min_eq_left hk]
  have hu2:(K.flat l)[k * K.n+j]? =some u:=by
   rw [e,List.getElem?_append_right (by omega),hl,Nat.add_sub_cancel_left];exact hu
  obtain ⟨g,rfl,hc⟩:=h _ u hu2;exact ⟨⟨g,k * K.n,none⟩,by rw [J9,qZ],by rw [Hj]; exact hc⟩
 ·rw [List.drop_eq_nil_of_le (by omega)] at hu
  cases hu
theorem IS {w:World} {a:Option Addr} {xs:List Value} (h:Row w a xs):ld w a xs:=fun j u hu=>by
 obtain ⟨g,rfl,hc⟩:=h j u hu;exact ⟨_,rfl,by rw [qZ]; exact hc⟩
theorem uM {α:Type} {K:Kind α} {w:World} {a:Option Addr} {l:List α} (k:Nat) (h:Row w a (K.flat l)):ld w a (K.flat (l.take k)):=fun j u hu=>by
 have e:K.flat l=K.flat (l.take k) ++ K.flat (l.drop k):=by rw [← K.dc,Qn]
 have hu2:(K.flat l)[j]? =some u:=by
  rw [e,List.getElem?_append_left (Lj.1 hu).1];exact hu
 exact IS h j u hu2
theorem nV {w:World} {base size n c:Nat} {e:TypeId} {a:Option Addr} {xs:List Value} (h:w.ownsRow base e size (.slice a n c) n xs):n≤c:=by
 obtain ⟨-,⟨e1,e2⟩ | ⟨g,c',cur,e1,-,-,h5,-⟩⟩:=h
 ·cases e1; exact Ki _
 ·cases e1; exact h5
theorem jO {w:World} {g:Nat} {cs:Array Value} {t:TypeId} {fz:Nat × Nat} (h:w.heap[g]? =some (.cells cs t fz)):ld w (some ⟨g,0,none⟩) cs.toList:=fun j u hu=>⟨_,rfl,by rw [qZ]; simp only [World.cell?,h]; simpa using hu⟩
theorem ja {w:World} {o i:Nat} {v:Value} :(w.setCell ⟨o,i,none⟩ v).heap.size=w.heap.size:=fH [v]
theorem qK {α:Type} {K:Kind α} {w:World} {a:Option Addr} {l:List α} {k c:Nat} (hk:l.length≤c) (h:Row w a (K.flat l)):ld w (if c=k then a else Option.map (fun x=>x.add (k * K.n)) a) (K.flat (l.drop k)):=by
 split
 ·rw [List.drop_eq_nil_of_le (by omega)]
  exact ld.nil
 ·exact FH k h
theorem jS {p p':aE} (h:(bK p && bK p')=true):cB p p'=some p':=if_pos h
theorem jh {p p':aE} (h:(bK p && bK p')=false):cB p p'=none:=if_neg (by rw [h]; decide)
theorem zm {α:Type} (num:α→Int) (id:Int) (l:List α) (k:Nat):(∃ x,l[k]? =some x∧num x < id∧k < l.length)∨(∃ x,l[k]? =some x∧ ¬ num x < id∧k < l.length)∨ ¬ k < l.length:=by
 by_cases h:k < l.length
 ·by_cases h2:num l[k] < id
  ·exact .inl ⟨_,Kz h,h2,h⟩
  ·exact .inr (.inl ⟨_,Kz h,h2,h⟩)
 ·exact .inr (.inr h)
end
section
open Go.RowKit
theorem nX {p:aE} {x:ci} (h:p.Small) (hr:bK p=true) (hx:(Lit.int .i64 x.id).wf=true∧x.Ma.length≤1048576∧ ∀ s∈x.Ma,s.size≤1048576):aE.Small { p with ae:=bY (·.id) x p.ae } :=by
 have h2:=((ch _).1 hr).cb;exact ⟨h.dl,h.fx,h.cD,h.cC,by show (bY (·.id) x p.ae).length≤_; rw [er]; omega,h.dH,h.L8,h.aj,h.L9,h.ag,fun y hy=>(fq.1 hy).elim (fun e=>e ▸ hx) (h.ae y),h.ai⟩
theorem yN {p:aE} {x:bD} (h:p.Small) (hr:bK p=true) (hx:(Lit.int .i64 x.id).wf=true):aE.Small { p with aj:=cA (·.id) x p.aj } :=by
 have h2:=((ch _).1 hr).fx;exact ⟨h.dl,by show (cA (·.id) x p.aj).length≤_; rw [eJ]; omega,h.cD,h.cC,h.cb,h.dH,h.L8,fun y hy=>(js.1 hy).elim (fun e=>e ▸ hx) (h.aj y),h.L9,h.ag,h.ae,h.ai⟩
theorem vS {p:aE} {x:aB} (h:p.Small) (hr:bK p=true) (hx:(Lit.int .i64 x.id).wf=true):aE.Small { p with L9:=cA (·.id) x p.L9 } :=by
 have h2:=((ch _).1 hr).cD;exact ⟨h.dl,h.fx,by show (cA (·.id) x p.L9).length≤_; rw [eJ]; omega,h.cC,h.cb,h.dH,h.L8,h.aj,fun y hy=>(js.1 hy).elim (fun e=>e ▸ hx) (h.L9 y),h.ag,h.ae,h.ai⟩
theorem vR {p:aE} {x:az} (h:p.Small) (hr:bK p=true) (hx:(Lit.int .i64 x.id).wf=true∧x.text.size≤1048576):aE.Small { p with ag:=cA (·.id) x p.ag } :=by
 have h2:=((ch _).1 hr).cC;exact ⟨h.dl,h.fx,h.cD,by show (cA (·.id) x p.ag).length≤_; rw [eJ]; omega,h.cb,h.dH,h.L8,h.aj,h.L9,fun y hy=>(js.1 hy).elim (fun e=>e ▸ hx) (h.ag y),h.ae,h.ai⟩
theorem pU {p:aE} {x:dS} (h:p.Small) (hr:bK p=true) (hx:(Lit.int .i64 x.id).wf=true∧x.Ma.length≤1048576∧ ∀ s∈x.Ma,s.size≤1048576):aE.Small { p with ai:=bY (·.id) x p.ai } :=by
 have h2:=((ch _).1 hr).dH;exact ⟨h.dl,h.fx,h.cD,h.cC,h.cb,by show (bY (·.id) x p.ai).length≤_; rw [er]; omega,h.L8,h.aj,h.L9,h.ag,h.ae,fun y hy=>(fq.1 hy).elim (fun e=>e ▸ hx) (h.ai y)⟩
abbrev newP (id RX:Int) (l:List dN):aD:=⟨id,RX,l,0,0,0,0,0,⟨#[]⟩,⟨#[]⟩,0,0⟩
section
variable {p:aE} {id RX:Int} {l:List dN}
theorem pO (h:p.Small) (hr:bK p=true) (hx:l.length≤1048576∧ ∀ o∈l,o.2.2.2.size≤1048576) (hw:(Lit.int .i64 id).wf=true):aE.Small { p with L8:=bY (·.id) (newP id RX l) p.L8 } :=by
 have h2:=((ch _).1 hr).dl;exact ⟨by show (bY (·.id) (newP id RX l) p.L8).length≤_; rw [er]; omega,h.fx,h.cD,h.cC,h.cb,h.dH,fun y hy=>(fq.1 hy).elim (fun e=>e ▸ ⟨⟨hx.1,hx.2,Ky _,Ky _⟩,hw,by show (Lit.int .i64 0).wf=true; decide,by show (Lit.int .i64 0).wf=true; decide⟩) (h.L8 y),h.aj,h.L9,h.ag,h.ae,h.ai⟩
end
end
section
open Go.RowKit Go.Maps
theorem cJ.drew {w:World} {base o:Nat} {S:aZ} (h:cJ w base o S):cJ w.drew base o S:=
 ⟨h.opn,h.L8.same fun _ _=>rfl,h.aj.same fun _ _=>rfl,h.L9.same fun _ _=>rfl,h.ag.same fun _ _=>rfl,h.ae.same fun _ _=>rfl,h.ai.same fun _ _=>rfl,fun p hp=>(h.eI p hp).same fun _ _=>rfl,fun p hp=>(h.eE p hp).same fun _ _=>rfl,fun p hp=>(h.eR p hp).same fun _ _=>rfl,h.nodup,h.low⟩
end
section
variable {p:aE} {x:aD}
theorem iF (h:cH x=true):jY x=true:=by rw [fG,J7] at h; exact h.1
theorem vm {code:Int} (h:cH x=true) (h0: ¬ x.Md=0) (hc:cv code 0 3=true):cH (jT code x)=true:=by
 obtain ⟨h1,h2⟩:=iT h h0;unfold jT
 split
 ·refine vQ ?_
  have h3:=iF h;unfold jY at h3 ⊢;simp only [J7] at h3 ⊢;exact ⟨⟨⟨h3.1.1.1,jX⟩,h3.1.2⟩,hc⟩
 ·have:=vF (s:=x.RU) (iF h) hc h1 (by omega)
  exact this
theorem AR {code nx:Int} (h:cH x=true) (h0: ¬ x.Md=0) (hc:cv code 0 3=true):cH (iY nx code x)=true:=by
 obtain ⟨h1,h2⟩:=iT h h0;unfold iY
 split
 ·have:=vm (code:=code) h h0 hc
  unfold jT at this;rw [if_pos ‹_›] at this;exact this
 ·exact vF (iF h) hc h1 (by omega)
theorem zF {code id:Int} (h:aQ p) (h0: ∀ x∈p.L8,x.id=id→ ¬ x.Md=0) (hc:cv code 0 3=true):aQ (bu code id p):=by
 have hn:=bz.1 h.next;refine h.ju (nx:=p.next) (f:=jT code) (fun x=>by unfold jT; split <;> rfl) ⟨LJ _,hn.2⟩ fun x hx hi=> ?_
 obtain ⟨-,k1,k2,-⟩:=h.proc hx;have k0:=h0 x hx hi;refine ⟨vm k1 k0 hc,?_,?_,?_⟩
 ·unfold fF at k2 ⊢
  simp only [Kb,decide_eq_true_eq,k0,false_or] at k2 ⊢;unfold jT
  split
  ·exact .inl rfl
  ·exact .inr k2
 ·unfold dG
  rw [if_neg];unfold jT
  split <;> simp [j7,jM]
 ·unfold jT
  split
  ·exact .inr (.inl rfl)
  ·exact .inl rfl
theorem lO {code:Int} {f:aD→aD} (h:aQ p) (hx:x∈p.L8) (h0: ¬ x.Md=0) (hc:cv code 0 3=true) (hf: ∀ y,(f y).id=y.id∧(f y).pc=y.pc∧(f y).prog=y.prog∧(f y).Md=y.Md) (hr:cH (f x)=true) (hn:p.next+1≤1000000000):
  aQ { p with next:=gf p.next x,L8:=ce x.id (fun y=>iY p.next code (f y)) p.L8 } :=by
 have hnx:=bz.1 h.next;have hw:gf p.next x=if (f x).pc+1=(f x).prog.length then p.next else p.next+1:=by unfold gf; rw [(hf x).2.1,(hf x).2.2.1]
 refine h.ju (f:=fun y=>iY p.next code (f y)) (fun y=>by rw [(rD _ _ _).1,(hf y).1]) ?_ fun y hy hi=> ?_
 ·rw [hw]; split <;> omega
 ·have e:y=x:=by
   have h5:=h.kW;rw [List.pairwise_iff_getElem] at h5;obtain ⟨i,hi1,rfl⟩:=LK.1 hy;obtain ⟨j,DS,rfl⟩:=LK.1 hx;rcases Nat.lt_trichotomy i j with hlt | heq | hgt
   ·have:=h5 i j hi1 DS hlt; omega
   ·subst heq; rfl
   ·have:=h5 j i DS hi1 hgt; omega
  subst e;have hs: ¬ (f y).Md=0:=by rw [(hf y).2.2.2]; exact h0
  refine ⟨AR hr hs hc,?_,?_,?_⟩
  ·unfold fF
   rw [hw];simp only [Kb,decide_eq_true_eq];unfold iY
   split
   ·exact .inl rfl
   ·exact .inr (eB (by show 1≤p.next; omega) (by show p.next≤_; omega))
  ·unfold dG
   rw [if_neg];unfold iY
   split <;> simp [j7,jM]
  ·unfold iY
   split
   ·exact .inr (.inl rfl)
   ·exact .inr (.inr rfl)
theorem mU (nx:Int) (x:aD):nx≤gf nx x∧gf nx x≤nx+1:=by unfold gf; split <;> omega
theorem vd {now:Int} (h:aQ p) (hx:lZ now p.L8=some x) (hn:p.next+1≤1000000000):aQ (gu p x):=by
 obtain ⟨hm,hd⟩:=Wk.mem hx;unfold og at hd;simp only [J7,decide_eq_true_eq] at hd;exact lO (f:=fun y=>y) h hm (by omega) (by unfold mL; split <;> rfl) (fun _=>⟨rfl,rfl,rfl,rfl⟩) (h.proc hm).2.1 hn
theorem qI {now:Int} : ∀ (n:Nat) (p:aE),aQ p→p.next+n≤1000000000→aQ (oO now n p)∧p.next≤(oO now n p).next∧(oO now n p).next≤p.next+n
 | 0,p,h,_=>⟨h,by simp [oO]⟩
 | n+1,p,h,hn=>by
  unfold oO
  split
  ·exact ⟨h,by omega,by omega⟩
  ·rename_i x hx
   have h1:=vd h hx (by omega);have h2:(gu p x).next=gf p.next x:=rfl;have h3:=mU p.next x;obtain ⟨h4,h5,h6⟩:=qI n (gu p x) h1 (by omega);exact ⟨h4,by omega,by omega⟩
theorem ru {now:Int} (h:aQ p) (hn:p.next≤999999990):aQ (gj now p)∧p.next≤(gj now p).next∧(gj now p).next≤p.next+6:=by
 have h1:(lF now p.L8).length≤p.L8.length:=Qq _ _;have h2:=h.dl;obtain ⟨h3,h4,h5⟩:=qI (now:=now) (lF now p.L8).length p h (by omega);exact ⟨h3,h4,by unfold gj; omega⟩
theorem iQ {t:ByteArray} {id:Int} (h:aQ p) (ht:bw t=true):aQ (ez t id p):=by
 have hn:=bz.1 h.next;refine h.ju (nx:=p.next) (f:=lG t) (fun _=>rfl) ⟨LJ _,hn.2⟩ fun x hx _=> ?_
 obtain ⟨-,k1,k2,k3⟩:=h.proc hx;refine ⟨?_,k2,k3,.inl rfl⟩;rw [fG,J7] at k1 ⊢;refine ⟨?_,k1.2⟩;have k4:=k1.1;unfold jY at k4 ⊢;simp only [J7] at k4 ⊢;exact ⟨⟨k4.1.1,ht⟩,k4.2⟩
theorem i9 {f:aD→aD} (h:aQ p) (hx:x∈p.L8) (h0: ¬ x.Md=0) (hf:f=(fun y=>y)∨ ∃ t,bw t=true∧f=lG t) (hn:p.next+1≤1000000000):aQ (gF f p x):=by
 rcases hf with rfl | ⟨t,ht,rfl⟩
 ·exact lO h hx h0 rfl (fun _=>⟨rfl,rfl,rfl,rfl⟩) (h.proc hx).2.1 hn
 ·refine lO (f:=lG t) h hx h0 rfl (fun _=>⟨rfl,rfl,rfl,rfl⟩) ?_ hn
  have k1:=(h.proc hx).2.1;rw [fG,J7] at k1 ⊢;refine ⟨?_,k1.2⟩;have k4:=k1.1;unfold jY at k4 ⊢;simp only [J7] at k4 ⊢;exact ⟨⟨k4.1.1,ht⟩,k4.2⟩
theorem oU {f:aD→aD} {st on:Int} (hst: ¬ st=0) (hf:f=(fun y=>y)∨ ∃ t,bw t=true∧f=lG t): ∀ (n:Nat) (p:aE),aQ p→p.next+n≤1000000000→aQ (gW f st on n p)∧p.next≤(gW f st on n p).next∧(gW f st on n p).next≤p.next+n
 | 0,p,h,_=>⟨h,by simp [gW]⟩
 | n+1,p,h,hn=>by
  unfold gW
  split
  ·exact ⟨h,by omega,by omega⟩
  ·rename_i x hx
   obtain ⟨m1,m2,-⟩:=ft hx;have h1:=i9 (f:=f) h m1 (by omega) hf (by omega);have h2:(gF f p x).next=gf p.next x:=rfl;have h3:=mU p.next x;obtain ⟨h4,h5,h6⟩:=oU hst hf n (gF f p x) h1 (by omega);exact ⟨h4,by omega,by omega⟩
theorem pP {f:aD→aD} {st on:Int} (hst: ¬ st=0) (hf:f=(fun y=>y)∨ ∃ t,bw t=true∧f=lG t) (h:aQ p) (hn:p.next≤999999990):aQ (ff f st on p)∧p.next≤(ff f st on p).next∧(ff f st on p).next≤p.next+6:=by
 have h1:(p.L8.filter (ie st on)).length≤p.L8.length:=Qq _ _;have h2:=h.dl;obtain ⟨h3,h4,h5⟩:=oU (on:=on) hst hf (p.L8.filter (ie st on)).length p h (by omega);exact ⟨h3,h4,by unfold ff; omega⟩
end
section
open Go.RowKit Go.Maps
attribute [local go_sem ↓] Go.wp_at_zero Go.wp_at_succ
theorem fi (p q:af) (w:World) (hp:p.Fit∧(∀ x∈p.L8,x.dX)∧af.At w p) (hq:bK p.pure=true→q.Fit∧(∀ x∈q.L8,x.dX)∧af.At w q):
  Calls J3 87 #[.agg p.cells,.agg q.cells] w fun e w'=>Below w.heap.size w w'∧(((bK p.pure && bK q.pure)=true∧e= .returned (.tuple #[.agg q.cells,.bool true]))∨((bK p.pure && bK q.pure)=false∧e= .returned (.tuple #[.agg ar,.bool false]))):=by
 have HB:Hid (Below w.heap.size w (((w.alloc (.cells p.row 32)).alloc (.cells q.row 32)).alloc (.cells ar 32))∧av (((w.alloc (.cells p.row 32)).alloc (.cells q.row 32)).alloc (.cells ar 32)) w.heap.size p∧av (((w.alloc (.cells p.row 32)).alloc (.cells q.row 32)).alloc (.cells ar 32)) (w.heap.size+1) q∧(((w.alloc (.cells p.row 32)).alloc (.cells q.row 32)).alloc (.cells ar 32)).heap[w.heap.size+2]? =some (.cells ar 32 (0,0))):=by
  refine ⟨(((Below.refl _ _).alloc (Ki _) _).alloc (by simp) _).alloc (by simp; omega) _,?_,?_,?_⟩
  ·exact (PU (by simp; omega)).trans ((PU (by simp)).trans (Kj _ _))
  ·exact (PU (by simp)).trans (by simpa using Kj (w.alloc (.cells p.row 32)) _)
  ·simpa using Kj ((w.alloc (.cells p.row 32)).alloc (.cells q.row 32)) _
 have HP:Hid (p.Fit∧(∀ x∈p.L8,x.dX)∧af.At w p):=hp;have HQ:Hid (bK p.pure=true→q.Fit∧(∀ x∈q.L8,x.dX)∧af.At w q):=hq;clear hp hq;obtain ⟨m0,m1,m2,m3,m4,m5,m6,m7⟩:=HB.I.2.1.cells;obtain ⟨k0,k1,k2,k3,k4,k5,k6,k7⟩:=HB.I.2.2.1.cells;unfold af.cells
 go_enter Tryz.func87,Tryz.ntmps87
 go_wp2_with fail;generalize ((w.alloc (.cells p.row 32)).alloc (.cells q.row 32)).alloc (.cells ar 32)=W at *;clear m0 m1 m2 m3 m4 m5 m6 m7 k0 k1 k2 k3 k4 k5 k6 k7;refine (eV p W HP.I.1 HP.I.2.1 (HP.I.2.2.below HB.I.1)).mono ?_;rintro e W1 ⟨rfl,hb⟩;replace HB:Hid (Below w.heap.size w W1∧av W1 w.heap.size p∧av W1 (w.heap.size+1) q∧W1.heap[w.heap.size+2]? =some (.cells ar 32 (0,0))):=⟨HB.I.1.trans (hb.mono HB.I.1.size),HB.I.2.1.below hb,HB.I.2.2.1.below hb,(hb.block _ (J2.1 HB.I.2.2.2).1).trans HB.I.2.2.2⟩
 clear hb;obtain ⟨k0,k1,k2,k3,k4,k5,k6,k7⟩:=HB.I.2.2.1.cells;cases h4:bK p.pure
 ·have H4:Hid (bK p.pure=false):=h4
  clear h4;go_wp2_with (refine ec 4 14 ar HB.I.2.2.2 ?_);refine mG Tryz.results87 (.bool false) HB.I.2.2.2 ?_;exact ⟨below_setRow HB.I.1 (by omega) _,.inr ⟨by rw [H4.I]; rfl,rfl⟩⟩
 have H4:Hid (bK p.pure=true):=h4;clear h4;go_wp2_with fail;clear k0 k1 k2 k3 k4 k5 k6 k7;refine (eV q W1 (HQ.I H4.I).1 (HQ.I H4.I).2.1 ((HQ.I H4.I).2.2.below HB.I.1)).mono ?_;rintro e W2 ⟨rfl,hb⟩;replace HB:Hid (Below w.heap.size w W2∧av W2 w.heap.size p∧av W2 (w.heap.size+1) q∧W2.heap[w.heap.size+2]? =some (.cells ar 32 (0,0))):=⟨HB.I.1.trans (hb.mono HB.I.1.size),HB.I.2.1.below hb,HB.I.2.2.1.below hb,(hb.block _ (J2.1 HB.I.2.2.2).1).trans HB.I.2.2.2⟩
 clear hb;obtain ⟨k0,k1,k2,k3,k4,k5,k6,k7⟩:=HB.I.2.2.1.cells;cases h5:bK q.pure
 ·have H5:Hid (bK q.pure=false):=h5
  clear h5;go_wp2_with (refine ec 4 14 ar HB.I.2.2.2 ?_);refine mG Tryz.results87 (.bool false) HB.I.2.2.2 ?_;exact ⟨below_setRow HB.I.1 (by omega) _,.inr ⟨by rw [H4.I,H5.I]; rfl,rfl⟩⟩
 have H5:Hid (bK q.pure=true):=h5;clear h5;go_wp2_with (refine ec 4 15 q.row HB.I.2.2.2 ?_);refine mG Tryz.results87 (.bool true) HB.I.2.2.2 ?_;exact ⟨below_setRow HB.I.1 (by omega) _,.inl ⟨by rw [H4.I,H5.I]; rfl,rfl⟩⟩
end
section
open Go.RowKit Go.Maps
theorem uI (w:World) (base:Nat) (a0:Option Addr) (c0:Nat) (l0:List bD) (ho:w.ownsRow base 49 3 (.slice a0 l0.length c0) l0.length (dm.flat l0)) (a:Option Addr) (l:List bD) (cap:Nat) (h:ld w a (dm.flat l)) (hl:l0.length+l.length≤4000000) (lY:base≤w.heap.size):
  ∃ a' cap' w',(Builtin.append_ #[26,26] 26 #[.slice a0 l0.length c0,.slice a l.length cap]).run J3 w= .ok (.slice a' (l0.length+l.length) cap') w'∧w'.ownsRow base 49 3 (.slice a' (l0.length+l.length) cap') (l0.length+l.length) (dm.flat (l0 ++ l))∧w.grownBy w' (Value.slice a0 l0.length c0).ownBlock∧ ∀ g∈blk a',g∈blk a0∨g=w.heap.size:=by
 obtain ⟨i,hi,e⟩:=Kw.1 yS;simp only [Kx] at e;rw [dm.dc];exact jD w base _ _ 49 i _ 3 24 Tryz.underlying26 hi e.1 e.2.1 e.2.2 rfl (by decide) a0 l0.length c0 _ ho a l.length cap _ h (dm.dM l) Ec hl (by decide) lY
theorem ap.newSem {w w':World} {base B:Nat} {q:af} {l:List bD} {a':Option Addr} {c':Nat} (h:ap w base q) (hb:base≤B) (hB: ∀ g∈q.Mc,g < B) (hs: ∀ g∈q.Mc,w'.heap[g]? =w.heap[g]?)
  (ho:w'.ownsRow B 49 3 (.slice a' l.length c') l.length (dm.flat l)):ap w' base ({ q with aj:=l,bc:=a',bF:=c' } :af):=by
 refine ⟨aL h.L8 fun g hg=>hs g (by simp [af.Mc,hg]),cq ho hb,aL h.L9 fun g hg=>hs g (by simp [af.Mc,hg]),aL h.ag fun g hg=>hs g (by simp [af.Mc,hg]),aL h.ae fun g hg=>hs g (by simp [af.Mc,hg]),aL h.ai fun g hg=>hs g (by simp [af.Mc,hg]),fun x hx=>(h.eI x hx).same fun g hg=>hs g ?_,fun x hx=>(h.eE x hx).same fun g hg=>hs g ?_,fun x hx=>(h.eR x hx).same fun g hg=>hs g ?_,?_⟩
 ·simp only [af.Mc,Kg,Lq]
  exact .inr (.inl ⟨x,hx,hg⟩)
 ·simp only [af.Mc,Kg,Lq]
  exact .inr (.inr (.inr (.inr (.inr (.inr (.inl ⟨x,hx,hg⟩))))))
 ·simp only [af.Mc,Kg,Lq]
  exact .inr (.inr (.inr (.inr (.inr (.inr (.inr (.inr ⟨x,hx,hg⟩)))))))
 ·have h5:=h.nodup
  have h6: ∀ g∈blk a',g∉q.Mc:=fun g hg hm=>by have:=(cf ho hg).1; have:=hB g hm; omega
  have e1: ∀ (a2:Option Addr) (l2:List bD) (c2:Nat),({ q with aj:=l2,bc:=a2,bF:=c2 } :af).Mc=(blk q.aN ++ q.L8.filterMap aR.bt) ++ (blk a2 ++ (blk q.ay ++ (blk q.ax ++ (blk q.am ++ (q.ae.filterMap aC.bt ++ (blk q.aK ++ q.ai.filterMap aU.bt)))))):=fun _ _ _=>by simp [af.Mc]
  have e2:=e1 q.bc q.aj q.bF;rw [e1];have e3:q.Mc=(blk q.aN ++ q.L8.filterMap aR.bt) ++ (blk q.bc ++ (blk q.ay ++ (blk q.ax ++ (blk q.am ++ (q.ae.filterMap aC.bt ++ (blk q.aK ++ q.ai.filterMap aU.bt)))))):=e2;rw [e3] at h5 h6;exact qv h5 (fN _) h6
theorem qu (w:World) (base:Nat) (a0:Option Addr) (c0:Nat) (l0:List aB) (ho:w.ownsRow base 138 2 (.slice a0 l0.length c0) l0.length (bJ.flat l0)) (a:Option Addr) (l:List aB) (cap:Nat) (h:ld w a (bJ.flat l)) (hl:l0.length+l.length≤4000000) (lY:base≤w.heap.size):
  ∃ a' cap' w',(Builtin.append_ #[27,27] 27 #[.slice a0 l0.length c0,.slice a l.length cap]).run J3 w= .ok (.slice a' (l0.length+l.length) cap') w'∧w'.ownsRow base 138 2 (.slice a' (l0.length+l.length) cap') (l0.length+l.length) (bJ.flat (l0 ++ l))∧w.grownBy w' (Value.slice a0 l0.length c0).ownBlock∧ ∀ g∈blk a',g∈blk a0∨g=w.heap.size:=by
 obtain ⟨i,hi,e⟩:=Kw.1 so;simp only [Kx] at e;rw [bJ.dc];exact jD w base _ _ 138 i _ 2 16 Tryz.underlying27 hi e.1 e.2.1 e.2.2 rfl (by decide) a0 l0.length c0 _ ho a l.length cap _ h (bJ.dM l) xB hl (by decide) lY
theorem ap.Ge {w w':World} {base B:Nat} {q:af} {l:List aB} {a':Option Addr} {c':Nat} (h:ap w base q) (hb:base≤B) (hB: ∀ g∈q.Mc,g < B) (hs: ∀ g∈q.Mc,w'.heap[g]? =w.heap[g]?)
  (ho:w'.ownsRow B 138 2 (.slice a' l.length c') l.length (bJ.flat l)):ap w' base ({ q with L9:=l,ay:=a',aO:=c' } :af):=by
 refine ⟨aL h.L8 fun g hg=>hs g (by simp [af.Mc,hg]),aL h.aj fun g hg=>hs g (by simp [af.Mc,hg]),cq ho hb,aL h.ag fun g hg=>hs g (by simp [af.Mc,hg]),aL h.ae fun g hg=>hs g (by simp [af.Mc,hg]),aL h.ai fun g hg=>hs g (by simp [af.Mc,hg]),fun x hx=>(h.eI x hx).same fun g hg=>hs g ?_,fun x hx=>(h.eE x hx).same fun g hg=>hs g ?_,fun x hx=>(h.eR x hx).same fun g hg=>hs g ?_,?_⟩
 ·simp only [af.Mc,Kg,Lq]
  exact .inr (.inl ⟨x,hx,hg⟩)
 ·simp only [af.Mc,Kg,Lq]
  exact .inr (.inr (.inr (.inr (.inr (.inr (.inl ⟨x,hx,hg⟩))))))
 ·simp only [af.Mc,Kg,Lq]
  exact .inr (.inr (.inr (.inr (.inr (.inr (.inr (.inr ⟨x,hx,hg⟩)))))))
 ·have h5:=h.nodup
  have h6: ∀ g∈blk a',g∉q.Mc:=fun g hg hm=>by have:=(cf ho hg).1; have:=hB g hm; omega
  have e1: ∀ (a2:Option Addr) (l2:List aB) (c2:Nat),({ q with L9:=l2,ay:=a2,aO:=c2 } :af).Mc=(blk q.aN ++ (q.L8.filterMap aR.bt ++ blk q.bc)) ++ (blk a2 ++ (blk q.ax ++ (blk q.am ++ (q.ae.filterMap aC.bt ++ (blk q.aK ++ q.ai.filterMap aU.bt))))):=fun _ _ _=>by simp [af.Mc]
  have e2:=e1 q.ay q.L9 q.aO;rw [e1];have e3:q.Mc=(blk q.aN ++ (q.L8.filterMap aR.bt ++ blk q.bc)) ++ (blk q.ay ++ (blk q.ax ++ (blk q.am ++ (q.ae.filterMap aC.bt ++ (blk q.aK ++ q.ai.filterMap aU.bt))))):=e2;rw [e3] at h5 h6;exact qv h5 (fN _) h6
theorem pX (w:World) (base:Nat) (a0:Option Addr) (c0:Nat) (l0:List az) (ho:w.ownsRow base 141 3 (.slice a0 l0.length c0) l0.length (bG.flat l0)) (a:Option Addr) (l:List az) (cap:Nat) (h:ld w a (bG.flat l)) (hl:l0.length+l.length≤4000000) (lY:base≤w.heap.size):
  ∃ a' cap' w',(Builtin.append_ #[28,28] 28 #[.slice a0 l0.length c0,.slice a l.length cap]).run J3 w= .ok (.slice a' (l0.length+l.length) cap') w'∧w'.ownsRow base 141 3 (.slice a' (l0.length+l.length) cap') (l0.length+l.length) (bG.flat (l0 ++ l))∧w.grownBy w' (Value.slice a0 l0.length c0).ownBlock∧ ∀ g∈blk a',g∈blk a0∨g=w.heap.size:=by
 obtain ⟨i,hi,e⟩:=Kw.1 sj;simp only [Kx] at e;rw [bG.dc];exact jD w base _ _ 141 i _ 3 32 Tryz.underlying28 hi e.1 e.2.1 e.2.2 rfl (by decide) a0 l0.length c0 _ ho a l.length cap _ h (bG.dM l) xV hl (by decide) lY
theorem ap.GV {w w':World} {base B:Nat} {q:af} {l:List az} {a':Option Addr} {c':Nat} (h:ap w base q) (hb:base≤B) (hB: ∀ g∈q.Mc,g < B) (hs: ∀ g∈q.Mc,w'.heap[g]? =w.heap[g]?)
  (ho:w'.ownsRow B 141 3 (.slice a' l.length c') l.length (bG.flat l)):ap w' base ({ q with ag:=l,ax:=a',aP:=c' } :af):=by
 refine ⟨aL h.L8 fun g hg=>hs g (by simp [af.Mc,hg]),aL h.aj fun g hg=>hs g (by simp [af.Mc,hg]),aL h.L9 fun g hg=>hs g (by simp [af.Mc,hg]),cq ho hb,aL h.ae fun g hg=>hs g (by simp [af.Mc,hg]),aL h.ai fun g hg=>hs g (by simp [af.Mc,hg]),fun x hx=>(h.eI x hx).same fun g hg=>hs g ?_,fun x hx=>(h.eE x hx).same fun g hg=>hs g ?_,fun x hx=>(h.eR x hx).same fun g hg=>hs g ?_,?_⟩
 ·simp only [af.Mc,Kg,Lq]
  exact .inr (.inl ⟨x,hx,hg⟩)
 ·simp only [af.Mc,Kg,Lq]
  exact .inr (.inr (.inr (.inr (.inr (.inr (.inl ⟨x,hx,hg⟩))))))
 ·simp only [af.Mc,Kg,Lq]
  exact .inr (.inr (.inr (.inr (.inr (.inr (.inr (.inr ⟨x,hx,hg⟩)))))))
 ·have h5:=h.nodup
  have h6: ∀ g∈blk a',g∉q.Mc:=fun g hg hm=>by have:=(cf ho hg).1; have:=hB g hm; omega
  have e1: ∀ (a2:Option Addr) (l2:List az) (c2:Nat),({ q with ag:=l2,ax:=a2,aP:=c2 } :af).Mc=(blk q.aN ++ (q.L8.filterMap aR.bt ++ (blk q.bc ++ blk q.ay))) ++ (blk a2 ++ (blk q.am ++ (q.ae.filterMap aC.bt ++ (blk q.aK ++ q.ai.filterMap aU.bt)))):=fun _ _ _=>by simp [af.Mc]
  have e2:=e1 q.ax q.ag q.aP;rw [e1];have e3:q.Mc=(blk q.aN ++ (q.L8.filterMap aR.bt ++ (blk q.bc ++ blk q.ay))) ++ (blk q.ax ++ (blk q.am ++ (q.ae.filterMap aC.bt ++ (blk q.aK ++ q.ai.filterMap aU.bt)))):=e2;rw [e3] at h5 h6;exact qv h5 (fN _) h6
end
end Go.Proofs.YtkbcplnlehdjfaaGreat
