/- What the proof leans on, part 18. -/
import Derived.Test.YtfncpmaefninjaaGreatDoorOwnT13
set_option linter.all false
set_option maxRecDepth 100000
set_option maxHeartbeats 8000000
open Go.Proofs.Tryz
open Go renaming World->w_,Value->v_,Calls->k_,Addr->d_,TypeId->T_,below_setRow->q_
open Go.Ending renaming returned->r_
open Go.IntKind renaming i64->j_
open Go.Obj renaming cells->c_
open Go.RowKit renaming Below->B_,Hid->bE
open Go.Value renaming int->i_,slice->s_,bool->b_,agg->a_,tuple->u_
open Option renaming some->o_,none->n_
open Go renaming wp_at_succ->Kd,wp_at_zero->Kc
open Go.Proofs.Tryz renaming prog->J3
open List renaming cons_append->Qw,length_cons->Lg,length_nil->K4

open Go.RowKit
namespace Go.Proofs.YtfncpmaefninjaaGreatDoor
section
open Go.Maps
attribute [local go_sem ↓] Kc Kd
def fi (p q:af) (w:w_) (hp:p.Fit/\(∀ x∈p.L8,x.dX)/\af.At w p) (hq:bK p.pure=true->q.Fit/\(∀ x∈q.L8,x.dX)/\af.At w q):
  k_ J3 115 #[a_ p.cells,a_ q.cells] w fun e w'=>B_ w.heap.size w w'/\(((bK p.pure && bK q.pure)=true/\e=r_ (u_ #[a_ q.cells,b_ true]))\/((bK p.pure && bK q.pure)=false/\e=r_ (u_ #[a_ ar,b_ false]))):=by
 have HB:bE (B_ w.heap.size w (((w.alloc (c_ p.row 31)).alloc (c_ q.row 31)).alloc (c_ ar 31))/\av (((w.alloc (c_ p.row 31)).alloc (c_ q.row 31)).alloc (c_ ar 31)) w.heap.size p/\av (((w.alloc (c_ p.row 31)).alloc (c_ q.row 31)).alloc (c_ ar 31)) (w.heap.size+1) q/\(((w.alloc (c_ p.row 31)).alloc (c_ q.row 31)).alloc (c_ ar 31)).heap[w.heap.size+2]? =o_ (c_ ar 31)):=by
  refine ⟨(((Kp _ _).alloc (Ki _) _).alloc zw _).alloc ZcF _,?_,?_,?_⟩
  .exact (PU ZcF).trans ((PU zw).trans (Kj _ _))
  .exact (PU zw).trans (by simpa using Kj (w.alloc (c_ p.row 31)) _)
  .simpa using Kj ((w.alloc (c_ p.row 31)).alloc (c_ q.row 31)) _
 have HP:bE (p.Fit/\(∀ x∈p.L8,x.dX)/\af.At w p):=hp;have HQ:bE (bK p.pure=true->q.Fit/\(∀ x∈q.L8,x.dX)/\af.At w q):=hq;clear hp hq;obtain ⟨m0,m1,m2,m3,m4,m5,m6,m7⟩:=HB.I.2.1.cells;obtain ⟨k0,k1,k2,k3,k4,k5,k6,k7⟩:=HB.I.2.2.1.cells;unfold af.cells
 go_enter func115,ntmps115
 go_wp2_with fail;generalize ((w.alloc (c_ p.row 31)).alloc (c_ q.row 31)).alloc (c_ ar 31)=W at *;clear m0 m1 m2 m3 m4 m5 m6 m7 k0 k1 k2 k3 k4 k5 k6 k7;refine (eV p W HP.I.1 HP.I.2.1 (HP.I.2.2.below HB.I.1)).mono ?_;rintro e W1 ⟨rfl,hb⟩;replace HB:bE (B_ w.heap.size w W1/\av W1 w.heap.size p/\av W1 (w.heap.size+1) q/\W1.heap[w.heap.size+2]? =o_ (c_ ar 31)):=⟨HB.I.1.trans (hb.mono HB.I.1.size),HB.I.2.1.below hb,HB.I.2.2.1.below hb,(hb.block _ (J2.1 HB.I.2.2.2).1).trans HB.I.2.2.2⟩
 clear hb;obtain ⟨k0,k1,k2,k3,k4,k5,k6,k7⟩:=HB.I.2.2.1.cells;cases h4:bK p.pure
 .have H4:bE (bK p.pure=false):=h4
  clear h4;go_wp2_with (refine ec 4 14 ar HB.I.2.2.2 ?_);refine mG results115 (b_ false) HB.I.2.2.2 ?_;exact ⟨q_ HB.I.1 zo _,.inr ⟨by rw [H4.I]; rfl,rfl⟩⟩
 have H4:bE (bK p.pure=true):=h4;clear h4;go_wp2_with fail;clear k0 k1 k2 k3 k4 k5 k6 k7;refine (eV q W1 (HQ.I H4.I).1 (HQ.I H4.I).2.1 ((HQ.I H4.I).2.2.below HB.I.1)).mono ?_;rintro e W2 ⟨rfl,hb⟩;replace HB:bE (B_ w.heap.size w W2/\av W2 w.heap.size p/\av W2 (w.heap.size+1) q/\W2.heap[w.heap.size+2]? =o_ (c_ ar 31)):=⟨HB.I.1.trans (hb.mono HB.I.1.size),HB.I.2.1.below hb,HB.I.2.2.1.below hb,(hb.block _ (J2.1 HB.I.2.2.2).1).trans HB.I.2.2.2⟩
 clear hb;obtain ⟨k0,k1,k2,k3,k4,k5,k6,k7⟩:=HB.I.2.2.1.cells;cases h5:bK q.pure
 .have H5:bE (bK q.pure=false):=h5
  clear h5;go_wp2_with (refine ec 4 14 ar HB.I.2.2.2 ?_);refine mG results115 (b_ false) HB.I.2.2.2 ?_;exact ⟨q_ HB.I.1 zo _,.inr ⟨by rw [H4.I,H5.I]; rfl,rfl⟩⟩
 have H5:bE (bK q.pure=true):=h5;clear h5;go_wp2_with (refine ec 4 15 q.row HB.I.2.2.2 ?_);refine mG results115 (b_ true) HB.I.2.2.2 ?_;exact ⟨q_ HB.I.1 zo _,.inl ⟨by rw [H4.I,H5.I]; rfl,rfl⟩⟩
end
section
open Go.Maps
section
variable {α:Type} {num:α->Int}
def rF {β:Type} {je:β->Int} (f:α->β) (hf: ∀ y,je (f y)=num y) (x:α): ∀ l:List α,(bY num x l).map f=bY je (f x) (l.map f)
 | [] =>rfl
 | y :: r=>by
  simp only [bY,Lt,hf]
  split
  .simp
  .simp [rF f hf x r]
def AL {x:α} : ∀ {l:List α},(∀ y∈l,¬ num x < num y)->bY num x l=l ++ [x]
 | [],_=>rfl
 | y :: r,h=>by
  simp only [bY,if_neg (h y zw),Qw];rw [AL fun z hz=>h z (by simp [hz])]
def xv {x:α} : ∀ {l r:List α},(∃ y∈l,num x < num y)->bY num x (l ++ r)=bY num x l ++ r
 | [],_,h=>by obtain ⟨y,hy,_⟩:=h; cases hy
 | y :: l,r,h=>by
  simp only [Qw,bY]
  split
  .rfl
  .rename_i hn
   rw [xv,Qw];obtain ⟨z,hz,hlt⟩:=h;rcases Kt.1 hz with rfl | hz
   .exact absurd hlt hn
   .exact ⟨z,hz,hlt⟩
def Cp {x y:α} {l:List α} (h: ∀ z∈l,¬ num x < num z) (hy:num x < num y):bY num x (l ++ [y])=l ++ [x] ++ [y] :=by
 induction l with
 | nil=>simp [bY,hy]
 | cons z r ih=>
  simp only [Qw,bY,if_neg (h z zw)];rw [ih fun u hu=>h u (by simp [hu])]
def pz (x:α): ∀ l:List α,(bY num x l).Perm (x :: l)
 | [] =>RA _
 | y :: r=>by
  simp only [bY]
  split
  .exact RA _
  .exact (List.Perm.cons y (pz x r)).trans (List.Perm.swap x y r)
def gY (num:α->Int) (x:α) (l:List α) (k:Nat) (dn:Bool) (acc:List α):Prop:=
 (dn=false/\acc=l.take k/\ ∀ y∈l.take k,¬ num x < num y)\/(dn=true/\acc=bY num x (l.take k)/\ ∃ y∈l.take k,num x < num y)
def gY.start (x:α) (l:List α):gY num x l 0 false [] := .inl ⟨rfl,by simp,fun y hy=>by simp at hy⟩
def gY.on {x y:α} {l:List α} {k:Nat} {acc:List α} (h:gY num x l k true acc) (hy:l[k]? =o_ y):gY num x l (k+1) true (acc ++ [y]):=by
 rcases h with ⟨h,-⟩ | ⟨-,rfl,z,hz,hlt⟩
 .cases h
 .rw [gY,cj hy]
  exact .inr ⟨rfl,(xv ⟨z,hz,hlt⟩).symm,z,Lz _ hz,hlt⟩
def gY.past {x y:α} {l:List α} {k:Nat} {acc:List α} (h:gY num x l k false acc) (hy:l[k]? =o_ y) (hn: ¬ num x < num y):gY num x l (k+1) false (acc ++ [y]):=by
 rcases h with ⟨-,rfl,h⟩ | ⟨h,-⟩
 .rw [gY,cj hy]
  refine .inl ⟨rfl,rfl,fun z hz=> ?_⟩;rcases Kg.1 hz with hz | hz
  .exact h z hz
  .rw [KB.1 hz]; exact hn
 .cases h
def gY.here {x y:α} {l:List α} {k:Nat} {acc:List α} (h:gY num x l k false acc) (hy:l[k]? =o_ y) (hn:num x < num y):gY num x l (k+1) true (acc ++ [x] ++ [y]):=by
 rcases h with ⟨-,rfl,h⟩ | ⟨h,-⟩
 .rw [gY,cj hy]
  exact .inr ⟨rfl,(Cp h hn).symm,y,by simp,hn⟩
 .cases h
def gY.done {x:α} {l:List α} {k:Nat} {acc:List α} (h:gY num x l k true acc) (hk: ¬ k < l.length):acc=bY num x l:=by
 rcases h with ⟨h,-⟩ | ⟨-,rfl,-⟩
 .cases h
 .rw [KF zo]
def gY.last {x:α} {l:List α} {k:Nat} {acc:List α} (h:gY num x l k false acc) (hk: ¬ k < l.length):acc ++ [x] =bY num x l:=by
 rcases h with ⟨-,rfl,h⟩ | ⟨h,-⟩
 .rw [KF zo] at h ⊢
  exact (AL h).symm
 .cases h
def gY.le {x:α} {l:List α} {k:Nat} {dn:Bool} {acc:List α} (h:gY num x l k dn acc):acc.length<=l.length+1:=by
 rcases h with ⟨-,rfl,-⟩ | ⟨-,rfl,-⟩
 .rw [Lk]; omega
 .rw [er,Lk]; omega
end
structure fy {α:Type} (K:Kind α) (T:T_) (t8:Array v_) (W w:w_) (acc:List α) (a:Option d_) (c:Nat):Prop where
 own:w.ownsRow W.heap.size T K.n (s_ a acc.length c) acc.length (K.flat acc)
 ne: ∀ g∈blk a,g≠W.heap.size+1
 cd:B_ W.heap.size W w
 box:w.heap[W.heap.size+1]? =o_ (c_ t8 T)
def fy.start {α:Type} {K:Kind α} {T:T_} {t8:Array v_} {W:w_} :fy K T t8 W ((W.alloc (c_ #[] T)).alloc (c_ t8 T)) [] (o_ ⟨W.heap.size,0,n_⟩) 0:=by
 have b1:B_ W.heap.size W (W.alloc (c_ #[] T)):=(Kp _ _).alloc (Ki _) _;refine ⟨i6 ((PU zw).trans (Kj _ _)) (Ki _),fun g hg=>by simp [blk] at hg; omega,b1.alloc b1.size _,Kq _ _ _⟩
def fy.add {α:Type} {K:Kind α} {T:T_} {t8:Array v_} {W w:w_} {acc:List α} {a:Option d_} {c:Nat} (h:fy K T t8 W w acc a c) (t:T_) (bytes:Nat) {z0:v_} {P:Program} (ht:P.underlying t=o_ (.slice T))
  (hi:(P.info? T).map (fun i=>(i.zero,i.size,i.bytes))=o_ (o_ z0,K.n,bytes)) (hz:z0.cells.size=K.n) (hn:0 < K.n) (hby:bytes<=1000) (z:α) (zs:Array v_) (hzs:zs.toList=K.vals z) (h1: ∀ u∈K.vals z,u.oneCell'=true) (hl:acc.length<=2000000):
  ∃ a' c' w',(Builtin.append_ #[t,t] t #[s_ a acc.length c,s_ (o_ ⟨w.heap.size,0,n_⟩) 1 1]).run P (w.alloc (c_ zs T))= .ok (s_ a' (acc.length+1) c') w'/\fy K T t8 W w' (acc ++ [z]) a' c':=by
 obtain ⟨i,hi,e⟩:=Kw.1 hi;simp only [Kx] at e;have b1:B_ w.heap.size w (w.alloc (c_ zs T)):=(Kp _ _).alloc (Ki _) _;have b2:=h.cd.trans (b1.mono h.cd.size);have hlt:=(J2.1 h.box).1;obtain ⟨a',c',w',hr,ho,hg,hq⟩:=jD (P:=P) (w.alloc (c_ zs T)) W.heap.size t t T i z0 K.n bytes ht hi e.1 e.2.1 e.2.2 hz hn a acc.length c _ (cR h.own b1) (o_ ⟨w.heap.size,0,n_⟩) 1 1 (K.vals z) (by rw [<- hzs]; exact jO (Kj _ _)) (by rw [K.len,Nat.one_mul]) h1 zo hby b2.size;refine ⟨a',c',w',hr,⟨?_,fun g hg2=> ?_,b2.grown hg b2.size fun k e=>(cf h.own (di e)).1,?_⟩⟩
 .exact Zbh
 .rcases hq g hg2 with h5 | h5
  .exact h.ne g h5
  .rw [h5]; have:=b1.size; omega
 .refine (hg.block _ ZcF (fun e=> ?_)).trans ((b1.block _ hlt).trans h.box)
  exact h.ne _ (di e.symm) rfl
def oS {Z A A' C C' R:List Nat} (h:(Z ++ (A ++ (C ++ R))).Nodup) (hA:A'.Nodup) (hC:C'.Nodup) (h1: ∀ g∈A',g∉Z ++ (A ++ (C ++ R))/\g∉C') (h2: ∀ g∈C',g∈C\/g∉Z ++ (A ++ (C ++ R))):(Z ++ (A' ++ (C' ++ R))).Nodup:=by
 simp only [Kg,not_or] at h1 h2;simp only [Kf,Kg] at h ⊢;obtain ⟨hz,⟨-,⟨-,hR,hCR⟩,-⟩,hzz⟩:=h;refine ⟨hz,⟨hA,⟨hC,hR,fun a ha b hb e=> ?_⟩,fun a ha b hb e=> ?_⟩,fun a ha b hb e=> ?_⟩
 .rcases h2 a ha with h5 | h5
  .exact hCR a h5 b hb e
  .exact h5.2.2.2 (e ▸ hb)
 .rcases hb with hb | hb
  .exact (h1 a ha).2 (e ▸ hb)
  .exact (h1 a ha).1.2.2.2 (e ▸ hb)
 .rcases hb with hb | hb | hb
  .exact (h1 b hb).1.1 (e ▸ ha)
  .rcases h2 b hb with h5 | h5
   .exact hzz a ha b (.inr (.inl h5)) e
   .exact h5.1 (e ▸ ha)
  .exact hzz a ha b (.inr (.inr hb)) e
def rB {x:ao} : ∀ u∈bg.vals x,u.oneCell'=true:=fun u hu=>by
 simp only [bg,qN,Kt,Ku,or_false] at hu;rcases hu with rfl | rfl | rfl | rfl | rfl | rfl | rfl | rfl | rfl | rfl | rfl | rfl <;> rfl
def ap.IX {w w':w_} {bj B:Nat} {q:af} {l:List ao} {a':Option d_} {c':Nat} (h:ap w bj q) (hb:bj<=B) (hB: ∀ g∈q.Mc,g < B) (hs: ∀ g∈q.Mc,w'.heap[g]? =w.heap[g]?)
  (ho:w'.ownsRow B 41 12 (s_ a' l.length c') l.length (bg.flat l)) (hm: ∀ x∈l,aR.cO w' bj x) (hn:(l.filterMap aR.bt).Nodup) (hk: ∀ g∈l.filterMap aR.bt,g∈q.L8.filterMap aR.bt\/g∉q.Mc) (hk2: ∀ g∈l.filterMap aR.bt,g < B):ap w' bj ({ q with L8:=l,aN:=a',aW:=c' } :af):=by
 refine ⟨cq ho hb,aL h.aj fun g hg=>hs g ZcH,aL h.L9 fun g hg=>hs g ZcH,aL h.ag fun g hg=>hs g ZcH,aL h.ae fun g hg=>hs g ZcH,aL h.ai fun g hg=>hs g ZcH,hm,fun x hx=>(h.eE x hx).same fun g hg=>hs g ?_,fun x hx=>(h.eR x hx).same fun g hg=>hs g ?_,?_⟩
 .exact Q3
 .exact L_
 .have h5:=h.nodup
  have h6: ∀ g∈blk a',g∉q.Mc/\g∉l.filterMap aR.bt:=fun g hg=>⟨fun hm=>by have:=(cf ho hg).1; have:=hB g hm; omega,fun hm=>by have:=(cf ho hg).1; have:=hk2 g hm; omega⟩
  have e1:({ q with L8:=l,aN:=a',aW:=c' } :af).Mc=([] :List Nat) ++ (blk a' ++ (l.filterMap aR.bt ++ (blk q.bc ++ (blk q.ay ++ (blk q.ax ++ (blk q.am ++ (q.ae.filterMap aC.bt ++ (blk q.aK ++ (q.ai.filterMap aU.bt))))))))):=by simp [af.Mc]
  have e3:q.Mc=([] :List Nat) ++ (blk q.aN ++ (q.L8.filterMap aR.bt ++ (blk q.bc ++ (blk q.ay ++ (blk q.ax ++ (blk q.am ++ (q.ae.filterMap aC.bt ++ (blk q.aK ++ (q.ai.filterMap aU.bt))))))))):=by simp [af.Mc]
  exact ZbI
def nz {x:au} : ∀ u∈bm.vals x,u.oneCell'=true:=fun u hu=>by
 simp only [bm,nD,Kt,Ku,or_false] at hu;rcases hu with rfl | rfl | rfl <;> rfl
def ap.Eu {w w':w_} {bj B:Nat} {q:af} {l:List au} {a':Option d_} {c':Nat} (h:ap w bj q) (hb:bj<=B) (hB: ∀ g∈q.Mc,g < B) (hs: ∀ g∈q.Mc,w'.heap[g]? =w.heap[g]?)
  (ho:w'.ownsRow B 96 3 (s_ a' l.length c') l.length (bm.flat l)) (hm: ∀ x∈l,aC.cO w' bj x) (hn:(l.filterMap aC.bt).Nodup) (hk: ∀ g∈l.filterMap aC.bt,g∈q.ae.filterMap aC.bt\/g∉q.Mc) (hk2: ∀ g∈l.filterMap aC.bt,g < B):ap w' bj ({ q with ae:=l,am:=a',aG:=c' } :af):=by
 refine ⟨aL h.L8 fun g hg=>hs g ZcH,aL h.aj fun g hg=>hs g ZcH,aL h.L9 fun g hg=>hs g ZcH,aL h.ag fun g hg=>hs g ZcH,cq ho hb,aL h.ai fun g hg=>hs g ZcH,fun x hx=>(h.eI x hx).same fun g hg=>hs g ?_,hm,fun x hx=>(h.eR x hx).same fun g hg=>hs g ?_,?_⟩
 .exact ZaA
 .exact L_
 .have h5:=h.nodup
  have h6: ∀ g∈blk a',g∉q.Mc/\g∉l.filterMap aC.bt:=fun g hg=>⟨fun hm=>by have:=(cf ho hg).1; have:=hB g hm; omega,fun hm=>by have:=(cf ho hg).1; have:=hk2 g hm; omega⟩
  have e1:({ q with ae:=l,am:=a',aG:=c' } :af).Mc=(blk q.aN ++ (q.L8.filterMap aR.bt ++ (blk q.bc ++ (blk q.ay ++ (blk q.ax))))) ++ (blk a' ++ (l.filterMap aC.bt ++ (blk q.aK ++ (q.ai.filterMap aU.bt)))):=by simp [af.Mc]
  have e3:q.Mc=(blk q.aN ++ (q.L8.filterMap aR.bt ++ (blk q.bc ++ (blk q.ay ++ (blk q.ax))))) ++ (blk q.am ++ (q.ae.filterMap aC.bt ++ (blk q.aK ++ (q.ai.filterMap aU.bt)))):=by simp [af.Mc]
  exact ZbI
def qX {x:aM} : ∀ u∈bX.vals x,u.oneCell'=true:=fun u hu=>by
 simp only [bX,qT,Kt,Ku,or_false] at hu;rcases hu with rfl | rfl | rfl | rfl | rfl <;> rfl
def ap.Jb {w w':w_} {bj B:Nat} {q:af} {l:List aM} {a':Option d_} {c':Nat} (h:ap w bj q) (hb:bj<=B) (hB: ∀ g∈q.Mc,g < B) (hs: ∀ g∈q.Mc,w'.heap[g]? =w.heap[g]?)
  (ho:w'.ownsRow B 115 5 (s_ a' l.length c') l.length (bX.flat l)) (hm: ∀ x∈l,aU.cO w' bj x) (hn:(l.filterMap aU.bt).Nodup) (hk: ∀ g∈l.filterMap aU.bt,g∈q.ai.filterMap aU.bt\/g∉q.Mc) (hk2: ∀ g∈l.filterMap aU.bt,g < B):ap w' bj ({ q with ai:=l,aK:=a',aV:=c' } :af):=by
 refine ⟨aL h.L8 fun g hg=>hs g ZcH,aL h.aj fun g hg=>hs g ZcH,aL h.L9 fun g hg=>hs g ZcH,aL h.ag fun g hg=>hs g ZcH,aL h.ae fun g hg=>hs g ZcH,cq ho hb,fun x hx=>(h.eI x hx).same fun g hg=>hs g ?_,fun x hx=>(h.eE x hx).same fun g hg=>hs g ?_,hm,?_⟩
 .exact ZaA
 .exact Q3
 .have h5:=h.nodup
  have h6: ∀ g∈blk a',g∉q.Mc/\g∉l.filterMap aU.bt:=fun g hg=>⟨fun hm=>by have:=(cf ho hg).1; have:=hB g hm; omega,fun hm=>by have:=(cf ho hg).1; have:=hk2 g hm; omega⟩
  have e1:({ q with ai:=l,aK:=a',aV:=c' } :af).Mc=(blk q.aN ++ (q.L8.filterMap aR.bt ++ (blk q.bc ++ (blk q.ay ++ (blk q.ax ++ (blk q.am ++ (q.ae.filterMap aC.bt))))))) ++ (blk a' ++ (l.filterMap aU.bt ++ ([] :List Nat))):=by simp [af.Mc]
  have e3:q.Mc=(blk q.aN ++ (q.L8.filterMap aR.bt ++ (blk q.bc ++ (blk q.ay ++ (blk q.ax ++ (blk q.am ++ (q.ae.filterMap aC.bt))))))) ++ (blk q.aK ++ (q.ai.filterMap aU.bt ++ ([] :List Nat))):=by simp [af.Mc]
  exact ZbI
end
section
open Go.Maps
attribute [local go_sem ↓] Kc Kd
def fy.drew {α:Type} {K:Kind α} {T:T_} {t8:Array v_} {W w:w_} {acc:List α} {a:Option d_} {c:Nat} (h:fy K T t8 W w acc a c):fy K T t8 W w.drew acc a c:=⟨aL h.own fun _ _=>rfl,h.ne,h.cd.drew,h.box⟩
def DY {p q:af} {w W W2 w9:w_} {o b0 n9 c9:Nat} {x:aM} {xp:dS} {t8:Array v_} {acc:List aM} {a9:Option d_} (hB:av W2 w.heap.size p/\ap W2 b0 p/\B_ w.heap.size w W2/\W2.heap[w.heap.size+1+1]? =o_ (c_ ar 31))
  (hQ:av W2 o q/\ap W2 W.heap.size q/\q.pure=p.pure/\(∀ g∈q.Mc,g < o)/\W.heap.size<=o/\w.heap.size+1+1 < W.heap.size/\o < W2.heap.size) (hpb: ∀ g∈p.Mc,g < w.heap.size) (hl:fy bX 115 t8 W2 w9 acc a9 c9) (ha:acc=bY (fun y:aM=>y.id) x q.ai) (hn:acc.length=n9) (hx:x.todS=xp)
  (hk: ∀ g,aU.bt x=o_ g->g∉q.Mc/\g≠o) (hm:aU.cO W2 W.heap.size x):
  (av (w9.setCell ⟨o,7,n_⟩ (s_ a9 n9 c9)) w.heap.size p/\ap (w9.setCell ⟨o,7,n_⟩ (s_ a9 n9 c9)) b0 p/\B_ w.heap.size w (w9.setCell ⟨o,7,n_⟩ (s_ a9 n9 c9))/\(w9.setCell ⟨o,7,n_⟩ (s_ a9 n9 c9)).heap[w.heap.size+1+1]? =o_ (c_ ar 31))/\av (w9.setCell ⟨o,7,n_⟩ (s_ a9 n9 c9)) o ({ q with ai:=acc,aK:=a9,aV:=c9 } :af)/\ap (w9.setCell ⟨o,7,n_⟩ (s_ a9 n9 c9)) W.heap.size ({ q with ai:=acc,aK:=a9,aV:=c9 } :af)/\({ q with ai:=acc,aK:=a9,aV:=c9 } :af).pure= { p.pure with ai:=bY (·.id) xp p.pure.ai } :=by
 have hb:=hl.cd;have nW:=hQ.2.2.2.1;have sm: ∀ g,g < W2.heap.size->g≠o->(w9.setCell ⟨o,7,n_⟩ (s_ a9 n9 c9)).heap[g]? =W2.heap[g]? :=fun g hg hne=>(aH hne).trans (hb.block _ hg)
 have lY:B_ w.heap.size w (w9.setCell ⟨o,7,n_⟩ (s_ a9 n9 c9)):=bP (hB.2.2.1.trans (hb.mono zo)) zo;have iH: ∀ g∈acc.filterMap aU.bt,g∈q.ai.filterMap aU.bt\/aU.bt x=o_ g:=fun g hg=>by
  exact Zak
 have hin: ∀ g∈q.ai.filterMap aU.bt,g∈q.Mc:=fun g hg=>by simp only [af.Mc,Kg]; simp [hg]
 refine ⟨⟨(sm _ zo zo).trans hB.1,hB.2.1.same fun g hg=>sm g ZcQ ZcQ,lY,(sm _ zo zo).trans hB.2.2.2⟩,?_,?_,?_⟩
 .have h5:=cx (i:=7) (v:=s_ a9 n9 c9) ((hb.block _ hQ.2.2.2.2.2.2).trans hQ.1)
  unfold av;simp only [hn];exact h5
 .refine hQ.2.1.Jb (B:=W2.heap.size) zo (fun g hg=>by have:=nW g hg; omega) (fun g hg=>sm g ZcT ZcT) ?_ (fun z hz=> ?_) ?_ (fun g hg=> ?_) (fun g hg=> ?_)
  .exact Zbv
  .rw [ha] at hz
   rcases fq.1 hz with rfl | hz
   .exact ZbL
   .refine (hQ.2.1.eR z hz).same fun g hg=> ?_
    exact Zba
  .have h5:=hQ.2.1.nodup
   simp only [af.Mc,Kf] at h5;have h6:(q.ai.filterMap aU.bt).Nodup:=h5.2.1.2.1.2.1.2.1.2.1.2.1.2.1.2.1;have hp:(acc.filterMap aU.bt).Perm ((x :: q.ai).filterMap aU.bt):=by rw [ha]; exact (pz x _).filterMap _
   refine hp.nodup_iff.2 ?_;cases he:aU.bt x with
   | none=>rw [List.filterMap_cons_none he]; exact h6
   | some g=>rw [List.filterMap_cons_some he]; exact Lp.2 ⟨fun h7=>(hk g he).1 (hin g h7),h6⟩
  .exact Zbl
  .exact Za3
 .show ({ q.pure with ai:=acc.map (·.todS) } :aE)=_
  have e1:q.ai.map (·.todS)=p.pure.ai:=congrArg aE.ai hQ.2.2.1;rw [ha,rF (je:=(·.id)) (fun y:aM=>y.todS) (fun _=>rfl),e1,hx,hQ.2.2.1]
def nd (p:af) (z:aM) (w:w_) (b0:Nat) (hwf:(Lit.int j_ z.id).wf=true) (qY:p.pure.Small) (h:ap w b0 p):
  k_ J3 77 #[a_ p.cells,a_ #[i_ j_ z.id,b_ z.I,b_ z.Mf,i_ j_ z.max,s_ z.ak z.Ma.length z.aq]] w fun e w'=>gI w (cB p.pure { p.pure with ai:=bY (·.id) (⟨z.id,z.I,z.Mf,z.max,[]⟩:dS) p.pure.ai }) e w':=by
 have HB:bE (av (((w.alloc (c_ p.cells 31)).alloc (c_ #[i_ j_ z.id,b_ z.I,b_ z.Mf,i_ j_ z.max,s_ z.ak z.Ma.length z.aq] 115)).alloc (c_ ar 31)) w.heap.size p/\ap (((w.alloc (c_ p.cells 31)).alloc (c_ #[i_ j_ z.id,b_ z.I,b_ z.Mf,i_ j_ z.max,s_ z.ak z.Ma.length z.aq] 115)).alloc (c_ ar 31)) b0 p/\B_ w.heap.size w (((w.alloc (c_ p.cells 31)).alloc (c_ #[i_ j_ z.id,b_ z.I,b_ z.Mf,i_ j_ z.max,s_ z.ak z.Ma.length z.aq] 115)).alloc (c_ ar 31))/\(((w.alloc (c_ p.cells 31)).alloc (c_ #[i_ j_ z.id,b_ z.I,b_ z.Mf,i_ j_ z.max,s_ z.ak z.Ma.length z.aq] 115)).alloc (c_ ar 31)).heap[w.heap.size+1+1]? =o_ (c_ ar 31)):=by
  have b1:B_ w.heap.size w (((w.alloc (c_ p.cells 31)).alloc (c_ #[i_ j_ z.id,b_ z.I,b_ z.Mf,i_ j_ z.max,s_ z.ak z.Ma.length z.aq] 115)).alloc (c_ ar 31)):=fg _ _ _ _;have h3:=dR w (c_ p.cells 31) (c_ #[i_ j_ z.id,b_ z.I,b_ z.Mf,i_ j_ z.max,s_ z.ak z.Ma.length z.aq] 115) (c_ ar 31);exact ⟨h3.1,h.below b1,b1,h3.2.2.1⟩
 have Cj:bE ((((w.alloc (c_ p.cells 31)).alloc (c_ #[i_ j_ z.id,b_ z.I,b_ z.Mf,i_ j_ z.max,s_ z.ak z.Ma.length z.aq] 115)).alloc (c_ ar 31)).heap[w.heap.size+1]? =o_ (c_ #[i_ j_ z.id,b_ z.I,b_ z.Mf,i_ j_ z.max,s_ z.ak z.Ma.length z.aq] 115)):=(dR _ _ _ _).2.1;have fl:bE (p.Fit/\(∀ x∈p.L8,x.dX)/\p.pure.Small/\(Lit.int j_ z.id).wf=true):=⟨dV qY,fun x hx=>(cY qY hx).1,qY,hwf⟩
 have hpl:p.ai.length<=1048576:=fl.I.1.short.ai;have pd: ∀ g∈p.Mc,g < w.heap.size:=fun g hg=>(h.lt g hg).2
 clear h qY hwf;obtain ⟨m0,m1,m2,m3,m4,m5,m6,m7⟩:=HB.I.1.cells;unfold af.cells at *
 go_enter func77,ntmps77
 go_wp2_with fail;generalize ((w.alloc (c_ p.row 31)).alloc (c_ #[i_ j_ z.id,b_ z.I,b_ z.Mf,i_ j_ z.max,s_ z.ak z.Ma.length z.aq] 115)).alloc (c_ ar 31)=W at *;clear m0 m1 m2 m3 m4 m5 m6 m7;refine (fR p W fl.I.1 fl.I.2.1 HB.I.2.1.at).mono ?_;rintro e W1 ⟨q,rfl,hown,gn,hb1⟩;have hb2:B_ W1.heap.size W1 (W1.alloc (c_ q.cells 31)):=(Kp _ _).alloc (Ki _) _;have hlt:w.heap.size+1+1 < W.heap.size:=(J2.1 HB.I.2.2.2).1;have hb3:B_ W.heap.size W (W1.alloc (c_ q.cells 31)):=hb1.trans (hb2.mono hb1.size);have hq1: ∀ g∈q.Mc,g < W1.heap.size:=fun g hg=>(hown.lt g hg).2
 have hql:q.ai.length<=1048576:=by have e1:=congrArg (fun z=>z.ai.length) gn; simp only [af.pure,KG] at e1; omega
 have HQ:bE (av (W1.alloc (c_ q.cells 31)) W1.heap.size q/\ap (W1.alloc (c_ q.cells 31)) W.heap.size q/\q.pure=p.pure/\(∀ g∈q.Mc,g < W1.heap.size)/\W.heap.size<=W1.heap.size/\w.heap.size+1+1 < W.heap.size/\W1.heap.size < (W1.alloc (c_ q.cells 31)).heap.size):=⟨Kj _ _,hown.below hb2,gn,hq1,hb1.size,hlt,by simp⟩
 replace HB:bE (av (W1.alloc (c_ q.cells 31)) w.heap.size p/\ap (W1.alloc (c_ q.cells 31)) b0 p/\B_ w.heap.size w (W1.alloc (c_ q.cells 31))/\(W1.alloc (c_ q.cells 31)).heap[w.heap.size+1+1]? =o_ (c_ ar 31)):=⟨HB.I.1.below hb3,HB.I.2.1.below hb3,HB.I.2.2.1.trans (hb3.mono HB.I.2.2.1.size),(hb3.block _ hlt).trans HB.I.2.2.2⟩
 replace Cj:bE ((W1.alloc (c_ q.cells 31)).heap[w.heap.size+1]? =o_ (c_ #[i_ j_ z.id,b_ z.I,b_ z.Mf,i_ j_ z.max,s_ z.ak z.Ma.length z.aq] 115)):=(hb3.block _ zo).trans Cj.I;have hbz:B_ (W1.alloc (c_ q.cells 31)).heap.size (W1.alloc (c_ q.cells 31)) ((W1.alloc (c_ q.cells 31)).alloc (c_ #[] 115)):=(Kp _ _).alloc (Ki _) _;obtain ⟨z0,z1,z2,z3,z4⟩:=gE (x:=z) ((hbz.block _ (by have:=hb3.size; omega)).trans Cj.I);clear hbz;have Au:bE (∀ g∈p.Mc,g < w.heap.size):=fun g hg=>pd g hg
 clear hown gn hb1 hb2 hb3 hq1 hlt pd;have En:bE (fy bX 115 #[i_ j_ z.id,b_ z.I,b_ z.Mf,i_ j_ z.max,s_ n_ 0 0] (W1.alloc (c_ q.cells 31)) (((W1.alloc (c_ q.cells 31)).alloc (c_ #[] 115)).alloc (c_ #[i_ j_ z.id,b_ z.I,b_ z.Mf,i_ j_ z.max,s_ n_ 0 0] 115)) [] (o_ ⟨(W1.alloc (c_ q.cells 31)).heap.size,0,n_⟩) 0):=fy.start;have Hw:(W1.alloc (c_ q.cells 31)).heap.size=W1.heap.size+1:=by simp
 have HW:bE ((W1.alloc (c_ q.cells 31)).heap.size=W1.heap.size+1):=Hw;clear Hw;unfold af.cells at *;go_wp2_with fail;clear z0 z1 z2 z3 z4;generalize W1.alloc (c_ q.row 31)=W2 at *;generalize W1.heap.size=o at *
 go_loopw [7,9,10] (fun l d i wr=> ∃ (k:Nat) (dn:Bool) (acc:List aM) (a:Option d_) (c:Nat),k<=q.ai.length/\i=i_ j_ k/\d=b_ dn/\l=s_ a acc.length c/\bE (fy bX 115 #[i_ j_ z.id,b_ z.I,b_ z.Mf,i_ j_ z.max,s_ n_ 0 0] W2 wr acc a c/\gY (fun y:aM=>y.id) (⟨⟨z.id,z.I,z.Mf,z.max,[]⟩,n_,0⟩:aM) q.ai k dn acc)) (fun _ _ i _=>q.ai.length - (Go.RowKit.intOf i).toNat)
 case atStart=>exact ⟨0,false,[],o_ ⟨W2.heap.size,0,n_⟩,0,Ky _,rfl,rfl,by rw [HW.I]; rfl,⟨En.I,gY.start _ _⟩⟩
 case round=>
  obtain ⟨k,dn,acc,a,c,hk,rfl,rfl,rfl,HA⟩:=hrel;have i0:(0:Int)<=(k:Int):=zo
  have mo0:wr.cell? ⟨o,7,n_⟩=o_ (s_ q.aK q.ai.length q.aV):=(HQ.I.1.below HA.I.1.cd).cells.2.2.2.2.2.2.2;have hal:=HA.I.2.le;by_cases hlt:k < q.ai.length
  .have i1:(k:Int) < (q.ai.length:Int):=zo
   replace HA:bE (fy bX 115 #[i_ j_ z.id,b_ z.I,b_ z.Mf,i_ j_ z.max,s_ n_ 0 0] W2 wr.drew acc a c/\gY (fun y:aM=>y.id) (⟨⟨z.id,z.I,z.Mf,z.max,[]⟩,n_,0⟩:aM) q.ai k dn acc):=⟨HA.I.1.drew,HA.I.2⟩
   have hbr:=HA.I.1.cd;have ajP:wr.drew.cell? ⟨o,7,n_⟩=o_ (s_ q.aK q.ai.length q.aV):=(HQ.I.1.below hbr).cells.2.2.2.2.2.2.2;have ali:wr.drew.cell? ⟨w.heap.size+1,0,n_⟩=o_ (i_ j_ z.id):=(gE (x:=z) ((hbr.block _ (by have:=HQ.I.2.2.2.2; omega)).trans Cj.I)).1;obtain ⟨y,hy⟩: ∃ y,q.ai[k]? =o_ y:=⟨_,Kz hlt⟩
   have HY:bE (q.ai[k]? =o_ y):=hy;obtain ⟨g,ha,hat⟩:=lm (HQ.I.2.1.below hbr).at.2.2.2.2.2 hy;rw [ha] at ajP;obtain ⟨d0,d1,d2,d3,d4⟩:=hat;have HG:bE (q.aK=o_ ⟨g,0,n_⟩):=ha;clear ha hy;obtain ⟨a5,c5,w5,hap,rL⟩:=HA.I.1.add 29 48 (P:=J3) underlying29 na rfl (by decide) (by decide) y #[i_ j_ y.id,b_ y.I,b_ y.Mf,i_ j_ y.max,s_ y.ak y.Ma.length y.aq] rfl qX zo;have F5:bE (fy bX 115 #[i_ j_ z.id,b_ z.I,b_ z.Mf,i_ j_ z.max,s_ n_ 0 0] W2 w5 (acc ++ [y]) a5 c5):=rL;clear rL;cases dn;rotate_left
   .
    go_wp2_with fail;refine aT (fun w'=>w'=wr.drew) ZcE rfl ?_
    iterate 3 (refine PI ?_ (hy:=fun w0 hS0=>by subst hS0; go_simp; try with_reducible rfl))
    iterate 9 (refine nl ?_; simp only [pt,sb,s0,s1])
    (refine PI ?_ (hy:=fun w0 hS0=>by subst hS0; go_simp; try with_reducible rfl))
    refine bk ZcE ?_ _;intro w1 cm;subst cm;clear mo0;go_wp2_with (at_builtin; first | (refine br _ rfl _ _ 29 rfl _ _ _ _ rfl rfl hap ?_; clear hap))
    exact WP
   by_cases hc:z.id < y.id;rotate_left
   .have HC:bE (¬ z.id < y.id):=hc
    have d2:decide (z.id < y.id)=false:=decide_eq_false hc;go_wp2_with fail;refine aT (fun w'=>w'=wr.drew) ZcE rfl ?_
    iterate 13 (refine PI ?_ (hy:=fun w0 hS0=>by subst hS0; go_simp; try with_reducible rfl))
    refine bk ZcE ?_ _;intro w1 cm;subst cm;clear mo0;go_wp2_with (at_builtin; first | (refine br _ rfl _ _ 29 rfl _ _ _ _ rfl rfl hap ?_; clear hap))
    go_round
    case rel=>exact ⟨k+1,false,acc ++ [y],a5,c5,zo,by go_num,rfl,by simp,⟨F5.I,HA.I.2.past HY.I (Int.not_lt.mpr HC.I)⟩⟩
    case measure=>simp [Go.RowKit.intOf]; omega
   clear hap F5 a5 c5 w5;have HC:bE (z.id < y.id):=hc;have d2:decide (z.id < y.id)=true:=decide_eq_true hc;obtain ⟨a5,c5,w5,hap,rL⟩:=HA.I.1.add 29 48 (P:=J3) underlying29 na rfl (by decide) (by decide) (⟨⟨z.id,z.I,z.Mf,z.max,[]⟩,n_,0⟩:aM) #[i_ j_ z.id,b_ z.I,b_ z.Mf,i_ j_ z.max,s_ n_ 0 0] rfl qX zo;obtain ⟨a7,c7,w7,gT,mI⟩:=rL.add 29 48 (P:=J3) underlying29 na rfl (by decide) (by decide) y #[i_ j_ y.id,b_ y.I,b_ y.Mf,i_ j_ y.max,s_ y.ak y.Ma.length y.aq] rfl qX ZcF;rw [Lf] at gT;simp only [Lg,K4,Li] at gT;have HL7:bE (fy bX 115 #[i_ j_ z.id,b_ z.I,b_ z.Mf,i_ j_ z.max,s_ n_ 0 0] W2 w7 (acc ++ [(⟨⟨z.id,z.I,z.Mf,z.max,[]⟩,n_,0⟩:aM)] ++ [y]) a7 c7):=mI;have mo5:w5.cell? ⟨o,7,n_⟩=o_ (s_ q.aK q.ai.length q.aV):=(HQ.I.1.below rL.cd).cells.2.2.2.2.2.2.2;obtain ⟨g2,ha2,g8⟩:=lm (HQ.I.2.1.below rL.cd).at.2.2.2.2.2 HY.I;rw [HG.I] at ha2 mo5;cases ha2;obtain ⟨e0,e1,e2,e3,e4⟩:=g8;obtain ⟨x0,x1,x2,x3,x4⟩:=gE (x:=(⟨⟨z.id,z.I,z.Mf,z.max,[]⟩,n_,0⟩:aM)) (X:=o+1+1) (W:=wr.drew) Zdb;clear rL mI;simp only [K4] at *;go_wp2_with fail;refine aT (fun w'=>w'=wr.drew) ZcE rfl ?_
   iterate 13 (refine PI ?_ (hy:=fun w0 hS0=>by subst hS0; go_simp; try with_reducible rfl))
   refine bk ZcE ?_ _;intro w1 cm;subst cm;clear mo0;go_wp2_with (at_builtin; first | (refine br _ rfl _ _ 29 rfl _ _ _ _ rfl rfl hap ?_; clear hap) | (refine br _ rfl _ _ 29 rfl _ _ _ _ rfl rfl gT ?_; clear gT))
   go_round
   case rel=>exact ⟨k+1,true,acc ++ [(⟨⟨z.id,z.I,z.Mf,z.max,[]⟩,n_,0⟩:aM)] ++ [y],a7,c7,zo,by go_num,rfl,by simp,⟨HL7.I,HA.I.2.here HY.I HC.I⟩⟩
   case measure=>simp [Go.RowKit.intOf]; omega
  have i1: ¬ (k:Int) < (q.ai.length:Int):=zo
  have hbr:=HA.I.1.cd;cases dn
  .obtain ⟨a9,c9,w9,hap,Jy⟩:=HA.I.1.add 29 48 (P:=J3) underlying29 na rfl (by decide) (by decide) (⟨⟨z.id,z.I,z.Mf,z.max,[]⟩,n_,0⟩:aM) #[i_ j_ z.id,b_ z.I,b_ z.Mf,i_ j_ z.max,s_ n_ 0 0] rfl qX zo
   have HR:bE (fy bX 115 #[i_ j_ z.id,b_ z.I,b_ z.Mf,i_ j_ z.max,s_ n_ 0 0] W2 w9 (acc ++ [(⟨⟨z.id,z.I,z.Mf,z.max,[]⟩,n_,0⟩:aM)]) a9 c9/\acc ++ [(⟨⟨z.id,z.I,z.Mf,z.max,[]⟩,n_,0⟩:aM)] =bY (fun y:aM=>y.id) (⟨⟨z.id,z.I,z.Mf,z.max,[]⟩,n_,0⟩:aM) q.ai/\(acc ++ [(⟨⟨z.id,z.I,z.Mf,z.max,[]⟩,n_,0⟩:aM)]).length=acc.length+1):=⟨Jy,HA.I.2.last hlt,by simp⟩
   obtain ⟨x0,x1,x2,x3,x4⟩:=gE (x:=(⟨⟨z.id,z.I,z.Mf,z.max,[]⟩,n_,0⟩:aM)) (X:=o+1+1) (W:=wr) Zdb;simp only [K4] at x0 x1 x2 x3 x4;clear Jy;have eX:bE (_):=DY HB.I HQ.I Au.I HR.I.1 HR.I.2.1 HR.I.2.2 rfl (fun g hg=>by cases hg) (Ke _ _ _ _);have Mb:=fi p ({ q with ai:=(acc ++ [(⟨⟨z.id,z.I,z.Mf,z.max,[]⟩,n_,0⟩:aM)]),aK:=a9,aV:=c9 } :af) (w9.setCell ⟨o,7,n_⟩ (s_ a9 (acc.length+1) c9)) ⟨fl.I.1,fl.I.2.1,eX.I.1.2.1.at⟩ (fun hr=>by
    have h5:aE.Small ({ q with ai:=(acc ++ [(⟨⟨z.id,z.I,z.Mf,z.max,[]⟩,n_,0⟩:aM)]),aK:=a9,aV:=c9 } :af).pure:=by rw [eX.I.2.2.2]; exact pU fl.I.2.2.1 hr ⟨fl.I.2.2.2,Ky _,(fun s hs=>by cases hs)⟩
    exact ⟨dV h5,fun x hx=>(cY h5 hx).1,eX.I.2.2.1.at⟩)
   obtain ⟨m0,m1,m2,m3,m4,m5,m6,m7⟩:=eX.I.1.1.cells;obtain ⟨k0,k1,k2,k3,k4,k5,k6,k7⟩:=eX.I.2.1.cells;obtain ⟨⟨u,co⟩,fo⟩:(∃ u,w9.cell? ⟨o,7,n_⟩=o_ u)/\w9.frozen? ⟨o,7,n_⟩=false:=⟨⟨_,(HQ.I.1.below HR.I.1.cd).cells.2.2.2.2.2.2.2⟩,Ko _ _ _ _ _ (HQ.I.1.below HR.I.1.cd)⟩
   unfold af.cells at Mb;have sR:=HR.I.2.2;simp only [sR] at Mb k0 k1 k2 k3 k4 k5 k6 k7;clear sR;go_wp2_with (at_builtin; first | (refine br _ rfl _ _ 29 rfl _ _ _ _ rfl rfl hap ?_; clear hap));refine Mb.mono ?_;clear Mb m0 m1 m2 m3 m4 m5 m6 m7 k0 k1 k2 k3 k4 k5 k6 k7;rintro e ow ⟨gy,hok⟩;have hq:=HQ.I.2.2.2.2;have HZ:bE (B_ w.heap.size w ow/\ow.heap[w.heap.size+1+1]? =o_ (c_ ar 31)/\ap ow W.heap.size ({ q with ai:=(acc ++ [(⟨⟨z.id,z.I,z.Mf,z.max,[]⟩,n_,0⟩:aM)]),aK:=a9,aV:=c9 } :af)/\w.heap.size+1+1 < W.heap.size):=⟨eX.I.1.2.2.1.trans (gy.mono eX.I.1.2.2.1.size),(gy.block _ (J2.1 eX.I.1.2.2.2).1).trans eX.I.1.2.2.2,eX.I.2.2.1.below gy,hq.2.1⟩
   clear gy hq;rw [eX.I.2.2.2] at hok;rcases hok with ⟨hok,rfl⟩ | ⟨hok,rfl⟩
   .have HN:bE (cB p.pure { p.pure with ai:=bY (·.id) (⟨z.id,z.I,z.Mf,z.max,[]⟩:dS) p.pure.ai } =o_ { p.pure with ai:=bY (·.id) (⟨z.id,z.I,z.Mf,z.max,[]⟩:dS) p.pure.ai }):=jS hok
    clear hok;go_wp2_with (refine ec 4 66 #[i_ j_ q.id,i_ j_ q.next,s_ q.aN q.L8.length q.aW,s_ q.bc q.aj.length q.bF,s_ q.ay q.L9.length q.aO,s_ q.ax q.ag.length q.aP,s_ q.am q.ae.length q.aG,s_ a9 (acc.length+1) c9] HZ.I.2.1 ?_);refine mG results77 (b_ true) HZ.I.2.1 ?_;have hl:=HZ.I.2.2.2;rw [HN.I];refine ⟨({ q with ai:=(acc ++ [(⟨⟨z.id,z.I,z.Mf,z.max,[]⟩,n_,0⟩:aM)]),aK:=a9,aV:=c9 } :af),by unfold af.cells; simp only [HR.I.2.2]; rfl,(HZ.I.2.2.1.lower zo).same fun g hg=>KH _ _ _ _ ZcO,eX.I.2.2.2,q_ HZ.I.1 zo _⟩
   .exact Zco
  .have HR:bE (fy bX 115 #[i_ j_ z.id,b_ z.I,b_ z.Mf,i_ j_ z.max,s_ n_ 0 0] W2 wr acc a c/\acc=bY (fun y:aM=>y.id) (⟨⟨z.id,z.I,z.Mf,z.max,[]⟩,n_,0⟩:aM) q.ai/\acc.length=acc.length):=⟨HA.I.1,HA.I.2.done hlt,rfl⟩
   have eX:bE (_):=DY HB.I HQ.I Au.I HR.I.1 HR.I.2.1 HR.I.2.2 rfl (fun g hg=>by cases hg) (Ke _ _ _ _);have Mb:=fi p ({ q with ai:=acc,aK:=a,aV:=c } :af) (wr.setCell ⟨o,7,n_⟩ (s_ a acc.length c)) ⟨fl.I.1,fl.I.2.1,eX.I.1.2.1.at⟩ (fun hr=>by
    have h5:aE.Small ({ q with ai:=acc,aK:=a,aV:=c } :af).pure:=by rw [eX.I.2.2.2]; exact pU fl.I.2.2.1 hr ⟨fl.I.2.2.2,Ky _,(fun s hs=>by cases hs)⟩
    exact ⟨dV h5,fun x hx=>(cY h5 hx).1,eX.I.2.2.1.at⟩)
   obtain ⟨m0,m1,m2,m3,m4,m5,m6,m7⟩:=eX.I.1.1.cells;obtain ⟨k0,k1,k2,k3,k4,k5,k6,k7⟩:=eX.I.2.1.cells;obtain ⟨⟨u,co⟩,fo⟩:(∃ u,wr.cell? ⟨o,7,n_⟩=o_ u)/\wr.frozen? ⟨o,7,n_⟩=false:=⟨⟨_,(HQ.I.1.below HR.I.1.cd).cells.2.2.2.2.2.2.2⟩,Ko _ _ _ _ _ (HQ.I.1.below HR.I.1.cd)⟩
   unfold af.cells at Mb;simp only at Mb k0 k1 k2 k3 k4 k5 k6 k7;go_wp2_with fail;refine Mb.mono ?_;clear Mb m0 m1 m2 m3 m4 m5 m6 m7 k0 k1 k2 k3 k4 k5 k6 k7;rintro e ow ⟨gy,hok⟩;have hq:=HQ.I.2.2.2.2;have HZ:bE (B_ w.heap.size w ow/\ow.heap[w.heap.size+1+1]? =o_ (c_ ar 31)/\ap ow W.heap.size ({ q with ai:=acc,aK:=a,aV:=c } :af)/\w.heap.size+1+1 < W.heap.size):=⟨eX.I.1.2.2.1.trans (gy.mono eX.I.1.2.2.1.size),(gy.block _ (J2.1 eX.I.1.2.2.2).1).trans eX.I.1.2.2.2,eX.I.2.2.1.below gy,hq.2.1⟩
   clear gy hq;rw [eX.I.2.2.2] at hok;rcases hok with ⟨hok,rfl⟩ | ⟨hok,rfl⟩
   .have HN:bE (cB p.pure { p.pure with ai:=bY (·.id) (⟨z.id,z.I,z.Mf,z.max,[]⟩:dS) p.pure.ai } =o_ { p.pure with ai:=bY (·.id) (⟨z.id,z.I,z.Mf,z.max,[]⟩:dS) p.pure.ai }):=jS hok
    clear hok;go_wp2_with (refine ec 4 66 #[i_ j_ q.id,i_ j_ q.next,s_ q.aN q.L8.length q.aW,s_ q.bc q.aj.length q.bF,s_ q.ay q.L9.length q.aO,s_ q.ax q.ag.length q.aP,s_ q.am q.ae.length q.aG,s_ a acc.length c] HZ.I.2.1 ?_);refine mG results77 (b_ true) HZ.I.2.1 ?_;have hl:=HZ.I.2.2.2;rw [HN.I];refine ⟨({ q with ai:=acc,aK:=a,aV:=c } :af),by rfl,(HZ.I.2.2.1.lower zo).same fun g hg=>KH _ _ _ _ ZcO,eX.I.2.2.2,q_ HZ.I.1 zo _⟩
   .exact Zco
def xN {p q:af} {w W W2 w9:w_} {o b0 n9 c9:Nat} {x:au} {xp:ci} {t8:Array v_} {acc:List au} {a9:Option d_} (hB:av W2 w.heap.size p/\ap W2 b0 p/\B_ w.heap.size w W2/\W2.heap[w.heap.size+1]? =o_ (c_ ar 31))
  (hQ:av W2 o q/\ap W2 W.heap.size q/\q.pure=p.pure/\(∀ g∈q.Mc,g < o)/\W.heap.size<=o/\w.heap.size+1 < W.heap.size/\o < W2.heap.size) (hpb: ∀ g∈p.Mc,g < w.heap.size) (hl:fy bm 96 t8 W2 w9 acc a9 c9) (ha:acc=bY (fun y:au=>y.id) x q.ae) (hn:acc.length=n9) (hx:x.toci=xp)
  (hk: ∀ g,aC.bt x=o_ g->g∉q.Mc/\g≠o) (hm:aC.cO W2 W.heap.size x):
  (av (w9.setCell ⟨o,6,n_⟩ (s_ a9 n9 c9)) w.heap.size p/\ap (w9.setCell ⟨o,6,n_⟩ (s_ a9 n9 c9)) b0 p/\B_ w.heap.size w (w9.setCell ⟨o,6,n_⟩ (s_ a9 n9 c9))/\(w9.setCell ⟨o,6,n_⟩ (s_ a9 n9 c9)).heap[w.heap.size+1]? =o_ (c_ ar 31))/\av (w9.setCell ⟨o,6,n_⟩ (s_ a9 n9 c9)) o ({ q with ae:=acc,am:=a9,aG:=c9 } :af)/\ap (w9.setCell ⟨o,6,n_⟩ (s_ a9 n9 c9)) W.heap.size ({ q with ae:=acc,am:=a9,aG:=c9 } :af)/\({ q with ae:=acc,am:=a9,aG:=c9 } :af).pure= { p.pure with ae:=bY (·.id) xp p.pure.ae } :=by
 have hb:=hl.cd;have nW:=hQ.2.2.2.1;have sm: ∀ g,g < W2.heap.size->g≠o->(w9.setCell ⟨o,6,n_⟩ (s_ a9 n9 c9)).heap[g]? =W2.heap[g]? :=fun g hg hne=>(aH hne).trans (hb.block _ hg)
 have lY:B_ w.heap.size w (w9.setCell ⟨o,6,n_⟩ (s_ a9 n9 c9)):=bP (hB.2.2.1.trans (hb.mono zo)) zo;have iH: ∀ g∈acc.filterMap aC.bt,g∈q.ae.filterMap aC.bt\/aC.bt x=o_ g:=fun g hg=>by
  exact Zak
 have hin: ∀ g∈q.ae.filterMap aC.bt,g∈q.Mc:=fun g hg=>by simp only [af.Mc,Kg]; simp [hg]
 refine ⟨⟨(sm _ zo zo).trans hB.1,hB.2.1.same fun g hg=>sm g ZcQ ZcQ,lY,(sm _ zo zo).trans hB.2.2.2⟩,?_,?_,?_⟩
 .have h5:=cx (i:=6) (v:=s_ a9 n9 c9) ((hb.block _ hQ.2.2.2.2.2.2).trans hQ.1)
  unfold av;simp only [hn];exact h5
 .refine hQ.2.1.Eu (B:=W2.heap.size) zo (fun g hg=>by have:=nW g hg; omega) (fun g hg=>sm g ZcT ZcT) ?_ (fun z hz=> ?_) ?_ (fun g hg=> ?_) (fun g hg=> ?_)
  .exact Zbv
  .rw [ha] at hz
   rcases fq.1 hz with rfl | hz
   .exact ZbL
   .refine (hQ.2.1.eE z hz).same fun g hg=> ?_
    exact Zba
  .have h5:=hQ.2.1.nodup
   simp only [af.Mc,Kf] at h5;have h6:(q.ae.filterMap aC.bt).Nodup:=h5.2.1.2.1.2.1.2.1.2.1.2.1.1;have hp:(acc.filterMap aC.bt).Perm ((x :: q.ae).filterMap aC.bt):=by rw [ha]; exact (pz x _).filterMap _
   refine hp.nodup_iff.2 ?_;cases he:aC.bt x with
   | none=>rw [List.filterMap_cons_none he]; exact h6
   | some g=>rw [List.filterMap_cons_some he]; exact Lp.2 ⟨fun h7=>(hk g he).1 (hin g h7),h6⟩
  .exact Zbl
  .exact Za3
 .show ({ q.pure with ae:=acc.map (·.toci) } :aE)=_
  have e1:q.ae.map (·.toci)=p.pure.ae:=congrArg aE.ae hQ.2.2.1;rw [ha,rF (je:=(·.id)) (fun y:au=>y.toci) (fun _=>rfl),e1,hx,hQ.2.2.1]
def qh (p:af) (id Me:Int) (w:w_) (b0:Nat) (hwf:(Lit.int j_ id).wf=true) (qY:p.pure.Small) (h:ap w b0 p):
  k_ J3 76 #[a_ p.cells,i_ j_ id,i_ j_ Me] w fun e w'=>gI w (cB p.pure { p.pure with ae:=bY (·.id) (⟨id,Me,[]⟩:ci) p.pure.ae }) e w':=by
 have HB:bE (av ((w.alloc (c_ p.row 31)).alloc (c_ ar 31)) w.heap.size p/\ap ((w.alloc (c_ p.row 31)).alloc (c_ ar 31)) b0 p/\B_ w.heap.size w ((w.alloc (c_ p.row 31)).alloc (c_ ar 31))/\((w.alloc (c_ p.row 31)).alloc (c_ ar 31)).heap[w.heap.size+1]? =o_ (c_ ar 31)):=by
  exact Q1
 have fl:bE (p.Fit/\(∀ x∈p.L8,x.dX)/\p.pure.Small/\(Lit.int j_ id).wf=true):=⟨dV qY,fun x hx=>(cY qY hx).1,qY,hwf⟩
 have hpl:p.ae.length<=1048576:=fl.I.1.short.ae;have pd: ∀ g∈p.Mc,g < w.heap.size:=fun g hg=>(h.lt g hg).2
 clear h qY hwf;obtain ⟨m0,m1,m2,m3,m4,m5,m6,m7⟩:=HB.I.1.cells;unfold af.cells
 go_enter func76,ntmps76
 go_wp2_with fail;generalize (w.alloc (c_ p.row 31)).alloc (c_ ar 31)=W at *;clear m0 m1 m2 m3 m4 m5 m6 m7;refine (fR p W fl.I.1 fl.I.2.1 HB.I.2.1.at).mono ?_;rintro e W1 ⟨q,rfl,hown,gn,hb1⟩;have hb2:B_ W1.heap.size W1 (W1.alloc (c_ q.row 31)):=(Kp _ _).alloc (Ki _) _;have hlt:w.heap.size+1 < W.heap.size:=(J2.1 HB.I.2.2.2).1;have hb3:B_ W.heap.size W (W1.alloc (c_ q.row 31)):=hb1.trans (hb2.mono hb1.size);have hq1: ∀ g∈q.Mc,g < W1.heap.size:=fun g hg=>(hown.lt g hg).2
 have hql:q.ae.length<=1048576:=by have e1:=congrArg (fun z=>z.ae.length) gn; simp only [af.pure,KG] at e1; omega
 have HQ:bE (av (W1.alloc (c_ q.row 31)) W1.heap.size q/\ap (W1.alloc (c_ q.row 31)) W.heap.size q/\q.pure=p.pure/\(∀ g∈q.Mc,g < W1.heap.size)/\W.heap.size<=W1.heap.size/\w.heap.size+1 < W.heap.size/\W1.heap.size < (W1.alloc (c_ q.row 31)).heap.size):=⟨Kj _ _,hown.below hb2,gn,hq1,hb1.size,hlt,by simp⟩
 replace HB:bE (av (W1.alloc (c_ q.row 31)) w.heap.size p/\ap (W1.alloc (c_ q.row 31)) b0 p/\B_ w.heap.size w (W1.alloc (c_ q.row 31))/\(W1.alloc (c_ q.row 31)).heap[w.heap.size+1]? =o_ (c_ ar 31)):=⟨HB.I.1.below hb3,HB.I.2.1.below hb3,HB.I.2.2.1.trans (hb3.mono HB.I.2.2.1.size),(hb3.block _ hlt).trans HB.I.2.2.2⟩
 have Au:bE (∀ g∈p.Mc,g < w.heap.size):=fun g hg=>pd g hg
 clear hown gn hb1 hb2 hb3 hq1 hlt pd;have En:bE (fy bm 96 #[i_ j_ id,i_ j_ Me,s_ n_ 0 0] (W1.alloc (c_ q.row 31)) (((W1.alloc (c_ q.row 31)).alloc (c_ #[] 96)).alloc (c_ #[i_ j_ id,i_ j_ Me,s_ n_ 0 0] 96)) [] (o_ ⟨(W1.alloc (c_ q.row 31)).heap.size,0,n_⟩) 0):=fy.start;have Hw:(W1.alloc (c_ q.row 31)).heap.size=W1.heap.size+1:=by simp
 have HW:bE ((W1.alloc (c_ q.row 31)).heap.size=W1.heap.size+1):=Hw;clear Hw;unfold af.cells;go_wp2_with fail;generalize W1.alloc (c_ q.row 31)=W2 at *;generalize W1.heap.size=o at *
 go_loopw [9,11,12] (fun l d i wr=> ∃ (k:Nat) (dn:Bool) (acc:List au) (a:Option d_) (c:Nat),k<=q.ae.length/\i=i_ j_ k/\d=b_ dn/\l=s_ a acc.length c/\bE (fy bm 96 #[i_ j_ id,i_ j_ Me,s_ n_ 0 0] W2 wr acc a c/\gY (fun y:au=>y.id) (⟨⟨id,Me,[]⟩,n_,0⟩:au) q.ae k dn acc)) (fun _ _ i _=>q.ae.length - (Go.RowKit.intOf i).toNat)
 case atStart=>exact ⟨0,false,[],o_ ⟨W2.heap.size,0,n_⟩,0,Ky _,rfl,rfl,by rw [HW.I]; rfl,⟨En.I,gY.start _ _⟩⟩
 case round=>
  obtain ⟨k,dn,acc,a,c,hk,rfl,rfl,rfl,HA⟩:=hrel;have i0:(0:Int)<=(k:Int):=zo
  have hbr:=HA.I.1.cd;have hal:=HA.I.2.le;have ajP:wr.cell? ⟨o,6,n_⟩=o_ (s_ q.am q.ae.length q.aG):=(HQ.I.1.below hbr).cells.2.2.2.2.2.2.1;by_cases hlt:k < q.ae.length
  .have i1:(k:Int) < (q.ae.length:Int):=zo
   obtain ⟨y,hy⟩: ∃ y,q.ae[k]? =o_ y:=⟨_,Kz hlt⟩
   have HY:bE (q.ae[k]? =o_ y):=hy;obtain ⟨g,ha,hat⟩:=iA (HQ.I.2.1.below hbr).at.2.2.2.2.1 hy;rw [ha] at ajP;obtain ⟨d0,d1,d2⟩:=hat;have HG:bE (q.am=o_ ⟨g,0,n_⟩):=ha;clear ha hy;obtain ⟨a5,c5,w5,hap,rL⟩:=HA.I.1.add 28 40 (P:=J3) underlying28 kh rfl (by decide) (by decide) y #[i_ j_ y.id,i_ j_ y.max,s_ y.ak y.Ma.length y.aq] rfl nz zo;have F5:bE (fy bm 96 #[i_ j_ id,i_ j_ Me,s_ n_ 0 0] W2 w5 (acc ++ [y]) a5 c5):=rL;clear rL;cases dn;rotate_left
   .go_wp2_with (at_builtin; first | (refine br _ rfl _ _ 28 rfl _ _ _ _ rfl rfl hap ?_; clear hap))
    exact WP
   by_cases hc:id < y.id;rotate_left
   .have HC:bE (¬ id < y.id):=hc
    go_wp2_with (at_builtin; first | (refine br _ rfl _ _ 28 rfl _ _ _ _ rfl rfl hap ?_; clear hap))
    exact ZaP
   clear hap F5 a5 c5 w5;have HC:bE (id < y.id):=hc;obtain ⟨a5,c5,w5,hap,rL⟩:=HA.I.1.add 28 40 (P:=J3) underlying28 kh rfl (by decide) (by decide) (⟨⟨id,Me,[]⟩,n_,0⟩:au) #[i_ j_ id,i_ j_ Me,s_ n_ 0 0] rfl nz zo;obtain ⟨a7,c7,w7,gT,mI⟩:=rL.add 28 40 (P:=J3) underlying28 kh rfl (by decide) (by decide) y #[i_ j_ y.id,i_ j_ y.max,s_ y.ak y.Ma.length y.aq] rfl nz ZcF;rw [Lf] at gT;simp only [Lg,K4,Li] at gT;have HL7:bE (fy bm 96 #[i_ j_ id,i_ j_ Me,s_ n_ 0 0] W2 w7 (acc ++ [(⟨⟨id,Me,[]⟩,n_,0⟩:au)] ++ [y]) a7 c7):=mI;have mo5:w5.cell? ⟨o,6,n_⟩=o_ (s_ q.am q.ae.length q.aG):=(HQ.I.1.below rL.cd).cells.2.2.2.2.2.2.1;obtain ⟨g2,ha2,g8⟩:=iA (HQ.I.2.1.below rL.cd).at.2.2.2.2.1 HY.I;rw [HG.I] at ha2 mo5;cases ha2;obtain ⟨e0,e1,e2⟩:=g8;obtain ⟨x0,x1,x2⟩:=ia (x:=(⟨⟨id,Me,[]⟩,n_,0⟩:au)) (X:=o+1+1) (W:=wr) Zdb;clear rL mI;simp only [K4] at *;go_wp2_with (at_builtin; first | (refine br _ rfl _ _ 28 rfl _ _ _ _ rfl rfl hap ?_; clear hap) | (refine br _ rfl _ _ 28 rfl _ _ _ _ rfl rfl gT ?_; clear gT))
   go_round
   case rel=>exact ⟨k+1,true,acc ++ [(⟨⟨id,Me,[]⟩,n_,0⟩:au)] ++ [y],a7,c7,zo,by go_num,rfl,by simp,⟨HL7.I,HA.I.2.here HY.I HC.I⟩⟩
   case measure=>simp [Go.RowKit.intOf]; omega
  have i1: ¬ (k:Int) < (q.ae.length:Int):=zo
  cases dn
  .obtain ⟨a9,c9,w9,hap,Jy⟩:=HA.I.1.add 28 40 (P:=J3) underlying28 kh rfl (by decide) (by decide) (⟨⟨id,Me,[]⟩,n_,0⟩:au) #[i_ j_ id,i_ j_ Me,s_ n_ 0 0] rfl nz zo
   have HR:bE (fy bm 96 #[i_ j_ id,i_ j_ Me,s_ n_ 0 0] W2 w9 (acc ++ [(⟨⟨id,Me,[]⟩,n_,0⟩:au)]) a9 c9/\acc ++ [(⟨⟨id,Me,[]⟩,n_,0⟩:au)] =bY (fun y:au=>y.id) (⟨⟨id,Me,[]⟩,n_,0⟩:au) q.ae/\(acc ++ [(⟨⟨id,Me,[]⟩,n_,0⟩:au)]).length=acc.length+1):=⟨Jy,HA.I.2.last hlt,by simp⟩
   obtain ⟨x0,x1,x2⟩:=ia (x:=(⟨⟨id,Me,[]⟩,n_,0⟩:au)) (X:=o+1+1) (W:=wr) Zdb;simp only [K4] at x0 x1 x2;clear Jy;have eX:bE (_):=xN HB.I HQ.I Au.I HR.I.1 HR.I.2.1 HR.I.2.2 rfl (fun g hg=>by cases hg) (Ke _ _ _ _);have Mb:=fi p ({ q with ae:=(acc ++ [(⟨⟨id,Me,[]⟩,n_,0⟩:au)]),am:=a9,aG:=c9 } :af) (w9.setCell ⟨o,6,n_⟩ (s_ a9 (acc.length+1) c9)) ⟨fl.I.1,fl.I.2.1,eX.I.1.2.1.at⟩ (fun hr=>by
    have h5:aE.Small ({ q with ae:=(acc ++ [(⟨⟨id,Me,[]⟩,n_,0⟩:au)]),am:=a9,aG:=c9 } :af).pure:=by rw [eX.I.2.2.2]; exact nX fl.I.2.2.1 hr ⟨fl.I.2.2.2,Ky _,(fun s hs=>by cases hs)⟩
    exact ⟨dV h5,fun x hx=>(cY h5 hx).1,eX.I.2.2.1.at⟩)
   obtain ⟨m0,m1,m2,m3,m4,m5,m6,m7⟩:=eX.I.1.1.cells;obtain ⟨k0,k1,k2,k3,k4,k5,k6,k7⟩:=eX.I.2.1.cells;obtain ⟨⟨u,co⟩,fo⟩:(∃ u,w9.cell? ⟨o,6,n_⟩=o_ u)/\w9.frozen? ⟨o,6,n_⟩=false:=⟨⟨_,(HQ.I.1.below HR.I.1.cd).cells.2.2.2.2.2.2.1⟩,Ko _ _ _ _ _ (HQ.I.1.below HR.I.1.cd)⟩
   unfold af.cells at Mb;have sR:=HR.I.2.2;simp only [sR] at Mb k0 k1 k2 k3 k4 k5 k6 k7;clear sR;go_wp2_with (at_builtin; first | (refine br _ rfl _ _ 28 rfl _ _ _ _ rfl rfl hap ?_; clear hap));refine Mb.mono ?_;clear Mb m0 m1 m2 m3 m4 m5 m6 m7 k0 k1 k2 k3 k4 k5 k6 k7;rintro e ow ⟨gy,hok⟩;have hq:=HQ.I.2.2.2.2;have HZ:bE (B_ w.heap.size w ow/\ow.heap[w.heap.size+1]? =o_ (c_ ar 31)/\ap ow W.heap.size ({ q with ae:=(acc ++ [(⟨⟨id,Me,[]⟩,n_,0⟩:au)]),am:=a9,aG:=c9 } :af)/\w.heap.size+1 < W.heap.size):=⟨eX.I.1.2.2.1.trans (gy.mono eX.I.1.2.2.1.size),(gy.block _ (J2.1 eX.I.1.2.2.2).1).trans eX.I.1.2.2.2,eX.I.2.2.1.below gy,hq.2.1⟩
   clear gy hq;rw [eX.I.2.2.2] at hok;rcases hok with ⟨hok,rfl⟩ | ⟨hok,rfl⟩
   .have HN:bE (cB p.pure { p.pure with ae:=bY (·.id) (⟨id,Me,[]⟩:ci) p.pure.ae } =o_ { p.pure with ae:=bY (·.id) (⟨id,Me,[]⟩:ci) p.pure.ae }):=jS hok
    clear hok;go_wp2_with (refine ec 6 61 #[i_ j_ q.id,i_ j_ q.next,s_ q.aN q.L8.length q.aW,s_ q.bc q.aj.length q.bF,s_ q.ay q.L9.length q.aO,s_ q.ax q.ag.length q.aP,s_ a9 (acc.length+1) c9,s_ q.aK q.ai.length q.aV] HZ.I.2.1 ?_);refine mG results76 (b_ true) HZ.I.2.1 ?_;have hl:=HZ.I.2.2.2;rw [HN.I];refine ⟨({ q with ae:=(acc ++ [(⟨⟨id,Me,[]⟩,n_,0⟩:au)]),am:=a9,aG:=c9 } :af),by unfold af.cells; simp only [HR.I.2.2]; rfl,(HZ.I.2.2.1.lower zo).same fun g hg=>KH _ _ _ _ ZcO,eX.I.2.2.2,q_ HZ.I.1 zo _⟩
   .exact Zcp
  .have HR:bE (fy bm 96 #[i_ j_ id,i_ j_ Me,s_ n_ 0 0] W2 wr acc a c/\acc=bY (fun y:au=>y.id) (⟨⟨id,Me,[]⟩,n_,0⟩:au) q.ae/\acc.length=acc.length):=⟨HA.I.1,HA.I.2.done hlt,rfl⟩
   have eX:bE (_):=xN HB.I HQ.I Au.I HR.I.1 HR.I.2.1 HR.I.2.2 rfl (fun g hg=>by cases hg) (Ke _ _ _ _);have Mb:=fi p ({ q with ae:=acc,am:=a,aG:=c } :af) (wr.setCell ⟨o,6,n_⟩ (s_ a acc.length c)) ⟨fl.I.1,fl.I.2.1,eX.I.1.2.1.at⟩ (fun hr=>by
    have h5:aE.Small ({ q with ae:=acc,am:=a,aG:=c } :af).pure:=by rw [eX.I.2.2.2]; exact nX fl.I.2.2.1 hr ⟨fl.I.2.2.2,Ky _,(fun s hs=>by cases hs)⟩
    exact ⟨dV h5,fun x hx=>(cY h5 hx).1,eX.I.2.2.1.at⟩)
   obtain ⟨m0,m1,m2,m3,m4,m5,m6,m7⟩:=eX.I.1.1.cells;obtain ⟨k0,k1,k2,k3,k4,k5,k6,k7⟩:=eX.I.2.1.cells;obtain ⟨⟨u,co⟩,fo⟩:(∃ u,wr.cell? ⟨o,6,n_⟩=o_ u)/\wr.frozen? ⟨o,6,n_⟩=false:=⟨⟨_,(HQ.I.1.below HR.I.1.cd).cells.2.2.2.2.2.2.1⟩,Ko _ _ _ _ _ (HQ.I.1.below HR.I.1.cd)⟩
   unfold af.cells at Mb;simp only at Mb k0 k1 k2 k3 k4 k5 k6 k7;go_wp2_with fail;refine Mb.mono ?_;clear Mb m0 m1 m2 m3 m4 m5 m6 m7 k0 k1 k2 k3 k4 k5 k6 k7;rintro e ow ⟨gy,hok⟩;have hq:=HQ.I.2.2.2.2;have HZ:bE (B_ w.heap.size w ow/\ow.heap[w.heap.size+1]? =o_ (c_ ar 31)/\ap ow W.heap.size ({ q with ae:=acc,am:=a,aG:=c } :af)/\w.heap.size+1 < W.heap.size):=⟨eX.I.1.2.2.1.trans (gy.mono eX.I.1.2.2.1.size),(gy.block _ (J2.1 eX.I.1.2.2.2).1).trans eX.I.1.2.2.2,eX.I.2.2.1.below gy,hq.2.1⟩
   clear gy hq;rw [eX.I.2.2.2] at hok;rcases hok with ⟨hok,rfl⟩ | ⟨hok,rfl⟩
   .have HN:bE (cB p.pure { p.pure with ae:=bY (·.id) (⟨id,Me,[]⟩:ci) p.pure.ae } =o_ { p.pure with ae:=bY (·.id) (⟨id,Me,[]⟩:ci) p.pure.ae }):=jS hok
    clear hok;go_wp2_with (refine ec 6 61 #[i_ j_ q.id,i_ j_ q.next,s_ q.aN q.L8.length q.aW,s_ q.bc q.aj.length q.bF,s_ q.ay q.L9.length q.aO,s_ q.ax q.ag.length q.aP,s_ a acc.length c,s_ q.aK q.ai.length q.aV] HZ.I.2.1 ?_);refine mG results76 (b_ true) HZ.I.2.1 ?_;have hl:=HZ.I.2.2.2;rw [HN.I];refine ⟨({ q with ae:=acc,am:=a,aG:=c } :af),by rfl,(HZ.I.2.2.1.lower zo).same fun g hg=>KH _ _ _ _ ZcO,eX.I.2.2.2,q_ HZ.I.1 zo _⟩
   .exact Zcp
end
end Go.Proofs.YtfncpmaefninjaaGreatDoor
