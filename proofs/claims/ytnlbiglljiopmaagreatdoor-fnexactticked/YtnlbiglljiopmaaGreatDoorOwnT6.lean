/- What the proof leans on, part 6. -/
import Derived.Test.YtnlbiglljiopmaaGreatDoorOwnT5
set_option linter.unusedVariables false
set_option maxRecDepth 100000
set_option maxHeartbeats 8000000
open Go.Proofs.Tryz
open Go renaming World->w_,Value->v_,Calls->k_,Addr->d_,TypeId->T_
open Go.Ending renaming returned->r_
open Go.IntKind renaming i64->j_
open Go.Obj renaming cells->c_
open Go.RowKit renaming Below->B_
open Go.Value renaming int->i_,slice->s_,bool->b_,string->t_,agg->a_,pointer->p_
open Option renaming some->o_,none->n_
open Array renaming getElem?_eq_some_iff->J2,getElem?_toList->QJ
open Go renaming bodyPost_ret->KT,heap_alloc_new->Kj,size_madeCells->aer
open Go.Proofs.Tryz renaming prog->J3
open Go.Result renaming andThen_ok->QT
open Go.RowKit.Below renaming refl->Kp
open Go.Sem renaming run_bind->QR,run_pure->QS
open Go.Value.slice renaming injEq->LD
open List renaming append_assoc->Lm,cons_append->Qw,filterMap_append->LW,getElem?_append_right->Qo,getElem?_eq_getElem->Kz,getElem?_eq_some_iff->Lj,getElem?_take->QW,length_cons->Lg,length_take->Lk,mem_append->Kg,mem_append_left->Lz,mem_append_right->Ly,mem_cons->Kt,mem_filterMap->Lq,mem_flatMap->Rt,mem_of_getElem?->KA,nil_append->Ll,nodup_append->Kf,not_mem_nil->Ku,take_of_length_le->KF
open Nat renaming add_assoc->adV,le_refl->Ki,mul_comm->adM,mul_le_mul->acA,mul_le_mul_right->Rs,succ_mul->Lh,zero_add->Li,zero_le->Ky
open Option renaming map_eq_some_iff->Kw
open Option.some renaming injEq->LF
open Prod.mk renaming injEq->Kx

namespace Go.Proofs.YtnlbiglljiopmaaGreatDoor
section
open Go.RowKit
structure aI (w w':w_) (bs:List Nat):Prop where
 os:w'.os=w.os
 tape:w'.tape=w.tape
 output:w'.output=w.output
 size:w.heap.size≤w'.heap.size
 same: ∀ g,g < w.heap.size→g∉bs→w'.heap[g]? =w.heap[g]?
section
variable {w w1 w2:w_} {bs bs':List Nat}
theorem aI.refl (w:w_) (bs:List Nat):aI w w bs:=⟨rfl,rfl,rfl,Ki _,fun _ _ _=>rfl⟩
theorem aI.trans (h:aI w w1 bs) (h':aI w1 w2 bs):aI w w2 bs:=
 ⟨h'.os.trans h.os,h'.tape.trans h.tape,h'.output.trans h.output,Nat.le_trans h.size h'.size,fun g hg hn=>(h'.same g (Nat.lt_of_lt_of_le hg h.size) hn).trans (h.same g hg hn)⟩
theorem aI.mono (h:aI w w1 bs) (hs: ∀ g∈bs,g∈bs'):aI w w1 bs':=⟨h.os,h.tape,h.output,h.size,fun g hg hn=>h.same g hg fun hm=>hn (hs g hm)⟩
theorem aI.dI (h:B_ w.heap.size w w1):aI w w1 bs:=⟨h.os,h.tape,h.output,h.size,fun g hg _=>h.block g hg⟩
theorem aI.below {base:Nat} (h:aI w w1 bs) (hb:base≤w.heap.size) (hs: ∀ g∈bs,base≤g):B_ base w w1:=⟨h.os,h.tape,h.output,h.size,fun g hg=>h.same g (by omega) fun hm=>by have:=hs g hm; omega⟩
theorem aI.set {g off:Nat} (vs:List v_) (hg:g∈bs):aI w (bn w g off vs) bs:=
 have hb: ∀ (vs:List v_) (w:w_) (off:Nat),(bn w g off vs).os=w.os∧(bn w g off vs).tape=w.tape∧(bn w g off vs).output=w.output:=fun vs=>by
  induction vs with
  | nil=>exact fun _ _=>⟨rfl,rfl,rfl⟩
  | cons v r ih=>exact fun w off=>ih (w.setCell ⟨g,off,n_⟩ v) (off+1)
 ⟨(hb vs w off).1,(hb vs w off).2.1,(hb vs w off).2.2,by rw [fH]; exact Ki _,fun k _ hn=>de vs fun e=>hn (by rw [e]; exact hg)⟩
end
theorem oY: ∀ (vs:List v_) (cur:Array v_) (off j:Nat),off+vs.length≤j→(iD cur off vs)[j]? =cur[j]?
 | [],_,_,_,_=>rfl
 | v :: r,cur,off,j,h=>by
  simp only [Lg] at h;rw [iD,oY r _ _ _ (by omega),Array.getElem?_setIfInBounds_ne (by omega)]
section
variable {α:Type} {K:Kind α}
theorem Kind.GG {xs:List v_} {l:List α} (hl:xs.length=l.length * K.n) (h: ∀ i y r,l[i]? =o_ y→r < K.n→xs[i * K.n+r]? =(K.vals y)[r]?):xs=K.flat l:=by
 apply List.ext_getElem?;intro q;by_cases hq:q < l.length * K.n
 ·have hi:q / K.n < l.length:=Nat.div_lt_of_lt_mul (by rw [adM]; exact hq)
  have hr:q % K.n < K.n:=Nat.mod_lt _ K.pos;have e:q / K.n * K.n+q % K.n=q:=by rw [adM]; exact Nat.div_add_mod q K.n
  obtain ⟨y,hy⟩: ∃ y,l[q / K.n]? =o_ y:=⟨_,Kz hi⟩
  have h1:=h _ y _ hy hr;rw [← K.jw hy hr,e] at h1;exact h1
 ·rw [List.getElem?_eq_none (by omega),List.getElem?_eq_none (by rw [K.dM]; omega)]
theorem Gf {cur:Array v_} {A B:List α} {x y:α} {j:Nat} {vs:List v_} (h:cur.toList.take ((A ++ x :: B).length * K.n)=K.flat (A ++ x :: B)) (hs:(A ++ x :: B).length * K.n≤cur.size) (hj:j+vs.length≤K.n)
  (h1: ∀ r,r < vs.length→(K.vals y)[j+r]? =vs[r]?) (h2: ∀ r,r < K.n→ ¬ (j≤r∧r < j+vs.length)→(K.vals y)[r]? =(K.vals x)[r]?):
  (iD cur (A.length * K.n+j) vs).toList.take ((A ++ y :: B).length * K.n)=K.flat (A ++ y :: B):=by
 have hlen:(A ++ y :: B).length=(A ++ x :: B).length:=by simp
 have hA:A.length < (A ++ x :: B).length:=by rw [List.length_append,Lg]; omega
 have hle:A.length * K.n+K.n≤(A ++ x :: B).length * K.n:=by rw [← Lh]; exact Rs _ hA
 have hcur: ∀ q,q < (A ++ x :: B).length * K.n→cur[q]? =(K.flat (A ++ x :: B))[q]? :=fun q hq=>by
  rw [← h,QW,if_pos hq,QJ]
 have e0:(iD cur (A.length * K.n+j) vs).toList.length=cur.size:=by rw [Array.length_toList,kM]
 refine Kind.GG (by rw [Lk,e0,hlen]; omega) fun i z r hz hr=> ?_
 have hi:i < (A ++ x :: B).length:=by rw [← hlen]; exact (Lj.1 hz).1
 have hq:i * K.n+r < (A ++ x :: B).length * K.n:=by
  have:(i+1) * K.n≤(A ++ x :: B).length * K.n:=Rs _ hi
  rw [Lh] at this;omega
 rw [QW,hlen,if_pos hq,QJ];by_cases e:i=A.length
 ·subst e
  have hzy:z=y:=by
   rw [Qo (Ki _)] at hz;simpa using hz.symm
  subst hzy;have hx:(A ++ x :: B)[A.length]? =o_ x:=by rw [Qo (Ki _)]; simp
  by_cases hr2:j≤r∧r < j+vs.length
  ·obtain ⟨d,rfl⟩: ∃ d,r=j+d:=⟨r - j,by omega⟩
   rw [h1 d (by omega),show A.length * K.n+(j+d)=A.length * K.n+j+d by omega,Kz (by omega)];exact sv vs cur (A.length * K.n+j) d _ (by omega) (Kz (by omega))
  ·rw [h2 r hr hr2,← K.jw hx hr,← hcur _ hq]
   by_cases h3:r < j
   ·exact lL vs cur _ _ (by omega)
   ·exact oY vs cur _ _ (by omega)
 ·have hx:(A ++ x :: B)[i]? =o_ z:=by
   by_cases h3:i < A.length
   ·rw [List.getElem?_append_left h3] at hz ⊢
    exact hz
   ·rw [Qo (by omega)] at hz ⊢
    obtain ⟨d,hd⟩: ∃ d,i - A.length=d+1:=⟨i - A.length - 1,by omega⟩
    rw [hd] at hz ⊢;exact hz
  rw [← K.jw hx hr,← hcur _ hq];by_cases h3:i < A.length
  ·have:(i+1) * K.n≤A.length * K.n:=Rs _ h3
   rw [Lh] at this;exact lL vs cur _ _ (by omega)
  ·have:(A.length+1) * K.n≤i * K.n:=Rs _ (by omega)
   rw [Lh] at this;exact oY vs cur _ _ (by omega)
def bl (K:Kind α) (T:T_) (w:w_) (base g cap:Nat) (l:List α):Prop:= ∃ cur:Array v_,w.heap[g]? =o_ (c_ cur T)∧base≤g∧l.length≤cap∧cap≤maxLen∧cur.size=cap * K.n∧cur.toList.take (l.length * K.n)=K.flat l
theorem bl.owns {T:T_} {w:w_} {base g cap:Nat} {l:List α} (h:bl K T w base g cap l):w.ownsRow base T K.n (s_ (o_ ⟨g,0,n_⟩) l.length cap) l.length (K.flat l):=by
 obtain ⟨cur,h1,h2,h3,h4,h5,h6⟩:=h;exact ⟨K.dM l,.inr ⟨g,cap,cur,rfl,h2,h1,h3,h4,h5,h6⟩⟩
theorem bl.fX {T:T_} {w:w_} {base cap:Nat} {a:Option d_} {l:List α} (h:w.ownsRow base T K.n (s_ a l.length cap) l.length (K.flat l)) (hl: ¬ l.length=0): ∃ g,a=o_ ⟨g,0,n_⟩∧bl K T w base g cap l:=by
 rcases h.2 with ⟨_,h0⟩ | ⟨g,c,cur,hv,h1,h2,h3,h4,h5,h6⟩
 ·exact absurd h0 hl
 ·simp only [LD] at hv
  obtain ⟨rfl,-,rfl⟩:=hv;exact ⟨g,rfl,cur,h2,h1,h3,h4,h5,h6⟩
theorem bl.same {T:T_} {w w':w_} {base g cap:Nat} {l:List α} (h:bl K T w base g cap l) (hs:w'.heap[g]? =w.heap[g]?):bl K T w' base g cap l:=by
 obtain ⟨cur,h1,h2⟩:=h;exact ⟨cur,hs.trans h1,h2⟩
theorem bl.lt {T:T_} {w:w_} {base g cap:Nat} {l:List α} (h:bl K T w base g cap l):g < w.heap.size:=by
 obtain ⟨cur,h1,_⟩:=h;exact (J2.1 h1).1
theorem bl.cell {T:T_} {w:w_} {base g cap:Nat} {l:List α} (h:bl K T w base g cap l) {i:Nat} {x:α} (hx:l[i]? =o_ x) {r:Nat} (hr:r < K.n):w.cell? ⟨g,i * K.n+r,n_⟩=(K.vals x)[r]? ∧w.frozen? ⟨g,i * K.n+r,n_⟩=false:=by
 obtain ⟨cur,h1,h2,h3,h4,h5,h6⟩:=h;refine ⟨?_,frozen_of_row _ _ _ _ _ h1⟩;have hi:i < l.length:=(Lj.1 hx).1;have hq:i * K.n+r < l.length * K.n:=by
  have:(i+1) * K.n≤l.length * K.n:=Rs _ hi
  rw [Lh] at this;omega
 rw [cell_of_row _ _ _ _ _ _ h1,← K.jw hx hr,← h6,QW,if_pos hq,QJ]
theorem bl.part {T:T_} {w:w_} {base g cap:Nat} {A B:List α} {x y:α} {j:Nat} {vs:List v_} (h:bl K T w base g cap (A ++ x :: B)) (hj:j+vs.length≤K.n)
  (h1: ∀ r,r < vs.length→(K.vals y)[j+r]? =vs[r]?) (h2: ∀ r,r < K.n→ ¬ (j≤r∧r < j+vs.length)→(K.vals y)[r]? =(K.vals x)[r]?):
  bl K T (bn w g (A.length * K.n+j) vs) base g cap (A ++ y :: B):=by
 obtain ⟨cur,c1,c2,c3,c4,c5,c6⟩:=h;have hl:(A ++ y :: B).length=(A ++ x :: B).length:=by simp
 refine ⟨_,jc vs c1,c2,by rw [hl]; exact c3,c4,by rw [kM]; exact c5,?_⟩;exact Gf c6 (by rw [c5]; exact Rs _ c3) hj h1 h2
theorem bl.eO {T:T_} {w:w_} {base g cap j:Nat} {A B:List α} {x:α} (h:bl K T w base g cap (A ++ x :: B)) (hA:A.length=j) {r:Nat} (hr:r < K.n):(∃ u,w.cell? ⟨g,j * K.n+r,n_⟩=o_ u)∧w.frozen? ⟨g,j * K.n+r,n_⟩=false:=by
 have hx:(A ++ x :: B)[j]? =o_ x:=by
  subst hA;rw [Qo (Ki _)];simp
 obtain ⟨h1,h2⟩:=h.cell hx hr;rw [Kz (by rw [K.len]; exact hr)] at h1;exact ⟨⟨_,h1⟩,h2⟩
theorem bl.uD {T:T_} {w:w_} {base g cap j:Nat} {A B:List α} {x:α} (h:bl K T w base g cap (A ++ x :: B)) (hA:A.length=j) {r:Nat} (hr:r < K.n):w.cell? ⟨g,j * K.n+r,n_⟩=(K.vals x)[r]? :=by
 have hx:(A ++ x :: B)[j]? =o_ x:=by
  subst hA;rw [Qo (Ki _)];simp
 exact (h.cell hx hr).1
theorem mz {l:List α} {k:Nat} {x:α} (hx:l[k]? =o_ x):l.drop k=x :: l.drop (k+1):=by
 obtain ⟨hk,rfl⟩:=Lj.1 hx;exact List.drop_eq_getElem_cons hk
def aJ (f:Int→α→α) (c:α→Nat):Int→List α→List α
 | _,[] => []
 | k,x :: r=>f k x :: aJ f c (k+c x) r
def aF (c:α→Nat):List α→Nat
 | [] =>0
 | x :: r=>c x+aF c r
theorem oz (c:α→Nat): ∀ l r:List α,aF c (l ++ r)=aF c l+aF c r
 | [],r=>by simp [aF]
 | x :: l,r=>by simp only [Qw,aF,oz c l r]; omega
theorem nA (f:Int→α→α) (c:α→Nat): ∀ (k:Int) (l r:List α),aJ f c k (l ++ r)=aJ f c k l ++ aJ f c (k+aF c l) r
 | k,[],r=>by simp [aJ,aF]
 | k,x :: l,r=>by
  simp only [Qw,aJ,aF,nA f c (k+c x) l r];rw [show k+(c x:Int)+(aF c l:Int)=k+((c x+aF c l:Nat):Int) by omega]
theorem bE (f:Int→α→α) (c:α→Nat): ∀ (k:Int) (l:List α),(aJ f c k l).length=l.length
 | _,[] =>rfl
 | k,x :: r=>by simp [aJ,bE f c (k+c x) r]
theorem kr {c:α→Nat} {n:Nat} (h: ∀ x,c x=n): ∀ l:List α,aF c l=l.length * n
 | [] =>by simp [aF]
 | x :: r=>by rw [aF,h x,kr h r,Lg,Lh]; omega
theorem du {c:α→Nat} {l:List α} {i:Nat} {x:α} (hx:l[i]? =o_ x):aF c (l.take i)+c x≤aF c l:=by
 have e:=kL hx
 have:aF c l=aF c (l.take i ++ x :: l.drop (i+1)):=by rw [← e]
 rw [this,oz,aF];omega
theorem gK {c:α→Nat} {l:List α} {i:Nat} {x:α} (hx:l[i]? =o_ x):aF c (l.take (i+1))=aF c (l.take i)+c x:=by
 rw [cj hx,oz];simp [aF]
theorem jK {f:Int→α→α} {c:α→Nat} {k:Int} {l:List α} {i:Nat} {x:α} (hx:l[i]? =o_ x):(aJ f c k l)[i]? =o_ (f (k+aF c (l.take i)) x):=by
 have hi:i < l.length:=(Lj.1 hx).1;have e:aJ f c k l=aJ f c k (l.take i ++ x :: l.drop (i+1)):=by rw [← kL hx]
 have hn:(aJ f c k (l.take i)).length=i:=by rw [bE,Lk]; omega
 rw [e,nA,Qo (by omega),hn,Nat.sub_self];rfl
theorem kE {f:Int→α→α} {c:α→Nat} {k:Int} {l:List α} {i:Nat} {x:α} (hx:l[i]? =o_ x):aJ f c k (l.take (i+1))=aJ f c k (l.take i) ++ [f (k+aF c (l.take i)) x] :=by
 rw [cj hx,nA];rfl
end
abbrev afh (q:af):List Nat:=blk q.bc ++ (blk q.ay ++ (blk q.ax ++ (blk q.am ++ (q.ae.filterMap aC.bt ++ (blk q.aK ++ q.ai.filterMap aU.bt)))))
abbrev afg (q:af):List Nat:=blk q.aN ++ q.L8.filterMap aR.bt ++ blk q.bc ++ blk q.ay ++ blk q.ax ++ blk q.am ++ q.ae.filterMap aC.bt
abbrev afk (q:af):List Nat:=blk q.aN ++ q.L8.filterMap aR.bt ++ blk q.bc ++ blk q.ay ++ blk q.ax
theorem qC {Z A A' K k R:List Nat} (h:(Z ++ (A ++ (K ++ R))).Nodup) (hA:A'.Nodup) (hk:k.Nodup) (h1: ∀ g∈A',g∉Z∧g∉K∧g∉k∧g∉R) (h2: ∀ g∈k,g∉Z∧g∉K∧g∉R):(Z ++ (A' ++ ((K ++ k) ++ R))).Nodup:=by
 simp only [Kf,Kg] at h ⊢;obtain ⟨hz,⟨-,⟨hK,hR,hKR⟩,-⟩,hzz⟩:=h;refine ⟨hz,⟨hA,⟨⟨hK,hk,fun a ha b hb e=>(h2 b hb).2.1 (e ▸ ha)⟩,hR,fun a ha b hb e=> ?_⟩,fun a ha b hb e=> ?_⟩,fun a ha b hb e=> ?_⟩
 ·rcases ha with ha | ha
  ·exact hKR a ha b hb e
  ·exact (h2 a ha).2.2 (e ▸ hb)
 ·subst e
  rcases hb with (hb | hb) | hb
  ·exact (h1 a ha).2.1 hb
  ·exact (h1 a ha).2.2.1 hb
  ·exact (h1 a ha).2.2.2 hb
 ·subst e
  rcases hb with hb | (hb | hb) | hb
  ·exact (h1 a hb).1 ha
  ·exact hzz a ha a (.inr (.inl hb)) rfl
  ·exact (h2 a hb).1 ha
  ·exact hzz a ha a (.inr (.inr hb)) rfl
theorem fN (a:Option d_):(blk a).Nodup:=by cases a <;> simp [blk]
theorem qj {α:Type} (N:gd α) (x:α):([x].filterMap N.bt).Nodup:=by
 cases h:N.bt x <;> simp [h]
theorem dd {α:Type} {N:gd α} {l:List α} {y:α} {g:Nat} (hy:y∈l) (hk:N.bt y=o_ g):(∃ a,a∈l∧N.bt a=o_ g)=True:=by simp only [eq_iff_iff,iff_true]; exact ⟨y,hy,hk⟩
theorem j5 {α:Type} {N:gd α} {x:α} {g:Nat} :g∈ [x].filterMap N.bt↔N.bt x=o_ g:=by simp
theorem ap.yg {w w':w_} {base:Nat} {q:af} {x:ao} {a:Option d_} {c:Nat} (h:ap w base q) (hm:aR.cO w base x) (hx: ∀ g,aR.bt x=o_ g→g∉q.Mc)
  (ho:w'.ownsRow base 100 12 (s_ a (q.L8.length+1) c) (q.L8.length+1) (bg.flat (q.L8 ++ [x]))) (hg: ∀ g,g < w.heap.size→g∉blk q.aN→w'.heap[g]? =w.heap[g]?) (hb: ∀ g∈blk a,g∈blk q.aN∨g=w.heap.size):
  ap w' base ({ q with L8:=q.L8 ++ [x],aN:=a,aW:=c } :af)∧ ∀ g∈({ q with L8:=q.L8 ++ [x],aN:=a,aW:=c } :af).Mc,g∈q.Mc∨aR.bt x=o_ g∨g=w.heap.size:=by
 have hbs:q.Mc= [] ++ (blk q.aN ++ (q.L8.filterMap aR.bt ++ (afh q))):=by simp [af.Mc]
 have rN:({ q with L8:=q.L8 ++ [x],aN:=a,aW:=c } :af).Mc= [] ++ (blk a ++ ((q.L8.filterMap aR.bt ++ [x].filterMap aR.bt) ++ (afh q))):=by simp only [af.Mc,Lm,LW,Ll]
 have hnd:=h.nodup;rw [hbs] at hnd;have hlt: ∀ g∈q.Mc,g < w.heap.size:=fun g hg=>(h.lt g hg).2
 have uW: ∀ g∈q.Mc,g∉blk q.aN→w'.heap[g]? =w.heap[g]? :=fun g bR hn=>hg g (hlt g bR) hn
 have nc: ∀ g,(g∈ [] ∨g∈q.L8.filterMap aR.bt∨g∈(afh q))→g∉blk q.aN:=fun g bR hA=>by
  exact Q2
 have hmem: ∀ g,(g∈ [] ∨g∈q.L8.filterMap aR.bt∨g∈(afh q))→g∈q.Mc:=fun g bR=>by
  exact Zae
 have hs: ∀ g,(g∈ [] ∨g∈q.L8.filterMap aR.bt∨g∈(afh q))→w'.heap[g]? =w.heap[g]? :=fun g bR=>uW g (hmem g bR) (nc g bR)
 have hxs: ∀ g,aR.bt x=o_ g→w'.heap[g]? =w.heap[g]? :=fun g hk=>hg g (hm.lt hk).2 fun hA=>hx g hk Zdk
 refine ⟨⟨(by simpa using ho),aL h.aj fun g bR=>hs g (.inr <| .inr ZcU),aL h.L9 fun g bR=>hs g (.inr <| .inr ZcU),aL h.ag fun g bR=>hs g (.inr <| .inr ZcU),aL h.ae fun g bR=>hs g (.inr <| .inr ZcU),aL h.ai fun g bR=>hs g (.inr <| .inr ZcU),fun y hy=>by
  rcases Kg.1 hy with hy | hy
  ·exact (h.eI y hy).same fun g hk=>hs g (.inr (.inl (Lq.2 ⟨y,hy,hk⟩)))
  ·simp only [Kt,Ku,or_false] at hy
   subst hy;exact hm.same hxs,fun y hy=>(h.eE y hy).same fun g hk=>hs g (.inr <| .inr ZcT),fun y hy=>(h.eR y hy).same fun g hk=>hs g (.inr <| .inr ZcT),?_⟩,?_⟩
 ·rw [rN]
  refine qC hnd (fN a) (qj _ x) (fun g iE=> ?_) (fun g EI=> ?_)
  ·have key: ∀ g',(g'∈ [] ∨g'∈q.L8.filterMap aR.bt∨g'∈(afh q))→g'≠g:=fun g' hg' e=>by
    exact ZaP
   exact CE
  ·exact Zag
 ·exact zs
theorem ap.sD {w w':w_} {base:Nat} {q:af} {x:au} {a:Option d_} {c:Nat} (h:ap w base q) (hm:aC.cO w base x) (hx: ∀ g,aC.bt x=o_ g→g∉q.Mc)
  (ho:w'.ownsRow base 114 3 (s_ a (q.ae.length+1) c) (q.ae.length+1) (bm.flat (q.ae ++ [x]))) (hg: ∀ g,g < w.heap.size→g∉blk q.am→w'.heap[g]? =w.heap[g]?) (hb: ∀ g∈blk a,g∈blk q.am∨g=w.heap.size):
  ap w' base ({ q with ae:=q.ae ++ [x],am:=a,aG:=c } :af)∧ ∀ g∈({ q with ae:=q.ae ++ [x],am:=a,aG:=c } :af).Mc,g∈q.Mc∨aC.bt x=o_ g∨g=w.heap.size:=by
 have hbs:q.Mc=(afk q) ++ (blk q.am ++ (q.ae.filterMap aC.bt ++ (blk q.aK ++ q.ai.filterMap aU.bt))):=by simp [af.Mc,Lm]
 have rN:({ q with ae:=q.ae ++ [x],am:=a,aG:=c } :af).Mc=(afk q) ++ (blk a ++ ((q.ae.filterMap aC.bt ++ [x].filterMap aC.bt) ++ (blk q.aK ++ q.ai.filterMap aU.bt))):=by simp only [af.Mc,Lm,LW]
 have hnd:=h.nodup;rw [hbs] at hnd;have hlt: ∀ g∈q.Mc,g < w.heap.size:=fun g hg=>(h.lt g hg).2
 have uW: ∀ g∈q.Mc,g∉blk q.am→w'.heap[g]? =w.heap[g]? :=fun g bR hn=>hg g (hlt g bR) hn
 have nc: ∀ g,(g∈(afk q)∨g∈q.ae.filterMap aC.bt∨g∈(blk q.aK ++ q.ai.filterMap aU.bt))→g∉blk q.am:=fun g bR hA=>by
  exact Q2
 have hmem: ∀ g,(g∈(afk q)∨g∈q.ae.filterMap aC.bt∨g∈(blk q.aK ++ q.ai.filterMap aU.bt))→g∈q.Mc:=fun g bR=>by
  exact Zae
 have hs: ∀ g,(g∈(afk q)∨g∈q.ae.filterMap aC.bt∨g∈(blk q.aK ++ q.ai.filterMap aU.bt))→w'.heap[g]? =w.heap[g]? :=fun g bR=>uW g (hmem g bR) (nc g bR)
 have hxs: ∀ g,aC.bt x=o_ g→w'.heap[g]? =w.heap[g]? :=fun g hk=>hg g (hm.lt hk).2 fun hA=>hx g hk Zdk
 refine ⟨⟨aL h.L8 fun g bR=>hs g (.inl ZcU),aL h.aj fun g bR=>hs g (.inl ZcU),aL h.L9 fun g bR=>hs g (.inl ZcU),aL h.ag fun g bR=>hs g (.inl ZcU),(by simpa using ho),aL h.ai fun g bR=>hs g (.inr <| .inr ZcU),fun y hy=>(h.eI y hy).same fun g hk=>hs g (.inl ZcT),fun y hy=>by
  rcases Kg.1 hy with hy | hy
  ·exact (h.eE y hy).same fun g hk=>hs g (.inr (.inl (Lq.2 ⟨y,hy,hk⟩)))
  ·simp only [Kt,Ku,or_false] at hy
   subst hy;exact hm.same hxs,fun y hy=>(h.eR y hy).same fun g hk=>hs g (.inr <| .inr ZcT),?_⟩,?_⟩
 ·rw [rN]
  refine qC hnd (fN a) (qj _ x) (fun g iE=> ?_) (fun g EI=> ?_)
  ·have key: ∀ g',(g'∈(afk q)∨g'∈q.ae.filterMap aC.bt∨g'∈(blk q.aK ++ q.ai.filterMap aU.bt))→g'≠g:=fun g' hg' e=>by
    exact ZaP
   exact CE
  ·exact Zag
 ·exact zs
theorem ap.yf {w w':w_} {base:Nat} {q:af} {x:aM} {a:Option d_} {c:Nat} (h:ap w base q) (hm:aU.cO w base x) (hx: ∀ g,aU.bt x=o_ g→g∉q.Mc)
  (ho:w'.ownsRow base 116 5 (s_ a (q.ai.length+1) c) (q.ai.length+1) (bX.flat (q.ai ++ [x]))) (hg: ∀ g,g < w.heap.size→g∉blk q.aK→w'.heap[g]? =w.heap[g]?) (hb: ∀ g∈blk a,g∈blk q.aK∨g=w.heap.size):
  ap w' base ({ q with ai:=q.ai ++ [x],aK:=a,aV:=c } :af)∧ ∀ g∈({ q with ai:=q.ai ++ [x],aK:=a,aV:=c } :af).Mc,g∈q.Mc∨aU.bt x=o_ g∨g=w.heap.size:=by
 have hbs:q.Mc=(afg q) ++ (blk q.aK ++ (q.ai.filterMap aU.bt ++ [])):=by simp [af.Mc,Lm]
 have rN:({ q with ai:=q.ai ++ [x],aK:=a,aV:=c } :af).Mc=(afg q) ++ (blk a ++ ((q.ai.filterMap aU.bt ++ [x].filterMap aU.bt) ++ [])):=by simp only [af.Mc,Lm,LW,List.append_nil]
 have hnd:=h.nodup;rw [hbs] at hnd;have hlt: ∀ g∈q.Mc,g < w.heap.size:=fun g hg=>(h.lt g hg).2
 have uW: ∀ g∈q.Mc,g∉blk q.aK→w'.heap[g]? =w.heap[g]? :=fun g bR hn=>hg g (hlt g bR) hn
 have nc: ∀ g,(g∈(afg q)∨g∈q.ai.filterMap aU.bt∨g∈ [])→g∉blk q.aK:=fun g bR hA=>by
  exact Q2
 have hmem: ∀ g,(g∈(afg q)∨g∈q.ai.filterMap aU.bt∨g∈ [])→g∈q.Mc:=fun g bR=>by
  exact Zae
 have hs: ∀ g,(g∈(afg q)∨g∈q.ai.filterMap aU.bt∨g∈ [])→w'.heap[g]? =w.heap[g]? :=fun g bR=>uW g (hmem g bR) (nc g bR)
 have hxs: ∀ g,aU.bt x=o_ g→w'.heap[g]? =w.heap[g]? :=fun g hk=>hg g (hm.lt hk).2 fun hA=>hx g hk Zdk
 refine ⟨⟨aL h.L8 fun g bR=>hs g (.inl ZcU),aL h.aj fun g bR=>hs g (.inl ZcU),aL h.L9 fun g bR=>hs g (.inl ZcU),aL h.ag fun g bR=>hs g (.inl ZcU),aL h.ae fun g bR=>hs g (.inl ZcU),(by simpa using ho),fun y hy=>(h.eI y hy).same fun g hk=>hs g (.inl ZcT),fun y hy=>(h.eE y hy).same fun g hk=>hs g (.inl ZcT),fun y hy=>by
  rcases Kg.1 hy with hy | hy
  ·exact (h.eR y hy).same fun g hk=>hs g (.inr (.inl (Lq.2 ⟨y,hy,hk⟩)))
  ·simp only [Kt,Ku,or_false] at hy
   subst hy;exact hm.same hxs,?_⟩,?_⟩
 ·rw [rN]
  refine qC hnd (fN a) (qj _ x) (fun g iE=> ?_) (fun g EI=> ?_)
  ·have key: ∀ g',(g'∈(afg q)∨g'∈q.ai.filterMap aU.bt∨g'∈ [])→g'≠g:=fun g' hg' e=>by
    exact ZaP
   exact CE
  ·exact Zag
 ·exact zs
end
section
open Go.RowKit
attribute [local go_sem ↓] Go.wp_at_zero Go.wp_at_succ
theorem GX (x:ao) (left:Int) (w:w_) (hb:((x.prog.length≤maxLen∧ ∀ o∈x.prog,o.2.2.2.size≤maxLen)∧x.held.size≤maxLen∧x.got.size≤maxLen)) (hc:fk.ep w x.aY x.prog) (h0:0≤left) (h1:left≤1048576):
  k_ J3 52 #[a_ x.row,i_ j_ left] w fun e w'=>jZ w left (x.prog.length) (x.dX) e w':=by
 have HB:Hid (((x.prog.length≤maxLen∧ ∀ o∈x.prog,o.2.2.2.size≤maxLen)∧x.held.size≤maxLen∧x.got.size≤maxLen)):=hb;have HC:Hid (fk.ep (w.alloc (c_ x.row 86)) x.aY x.prog):=hc.below ((Kp _ _).alloc (Ki _) _);clear hc;have HW:Hid (B_ w.heap.size w (w.alloc (c_ x.row 86))):=(Kp _ _).alloc (Ki _) _;clear hb
 go_enter func52,ntmps52
 have HX:Hid ((w.alloc (c_ x.row 86)).heap[w.heap.size]? =o_ (c_ x.row 86)):=Kj _ _;go_wp2_with fail;generalize w.alloc (c_ x.row 86)=W at *;refine (Io x.aY x.prog x.bH left W HB.I.1.1 HC.I HB.I.1.2 h0 h1).mono ?_;rintro e w1 ⟨r1,rfl,q0,q1,q2,hb1⟩;have fQ:Hid (B_ w.heap.size w w1):=HW.I.trans (hb1.mono HW.I.size);have xi:Hid (w1.heap[w.heap.size]? =o_ (c_ x.row 86)):=(hb1.block _ (J2.1 HX.I).1).trans HX.I;have HQ:Hid (0≤r1→(x.prog.length≤1048576∧ ∀ s∈x.prog,(s.2.2.2.size≤1048576))∧r1+(x.prog.length:Nat)≤left):=q2;clear hb1 HX q2;by_cases hn:r1 < 0
 ·go_wp2
  go_ret;exact cT fQ.I h0
 have k8:w1.cell? ⟨w.heap.size,8,n_⟩=o_ (t_ x.held):=by have:=xi.I; simp [World.cell?,this]
 have k9:w1.cell? ⟨w.heap.size,9,n_⟩=o_ (t_ x.got):=by have:=xi.I; simp [World.cell?,this]
 have z0:x.held.size≤9223372036854775807:=HB.I.2.1;by_cases s0:r1 - (x.held.size:Int) < 0
 ·go_wp2
  go_ret;exact cT fQ.I h0
 have z1:x.got.size≤9223372036854775807:=HB.I.2.2;by_cases s1:r1 - (x.held.size:Int) - (x.got.size:Int) < 0
 ·go_wp2
  go_ret;exact cT fQ.I h0
 go_wp2;go_ret;exact ⟨r1 - (x.held.size:Int) - (x.got.size:Int),rfl,by omega,by omega,fun _=>⟨⟨(HQ.I (by omega)).1.1,(HQ.I (by omega)).1.2,by omega,by omega⟩,by have:=(HQ.I (by omega)).2; omega⟩,fQ.I⟩
theorem E1 (a:Option d_) (l:List ao) (cap:Nat) (left:Int) (w:w_) (hl:l.length≤maxLen) (hc:bg.ep w a l) (hs: ∀ x∈l,((x.prog.length≤maxLen∧ ∀ o∈x.prog,o.2.2.2.size≤maxLen)∧x.held.size≤maxLen∧x.got.size≤maxLen)) (h0:0≤left) (h1:left≤1048576):
  k_ J3 14 #[s_ a l.length cap,i_ j_ left] w fun e w'=>jZ w left (l.length+g9 (fun x:ao=>x.prog.length) l) (l.length≤1048576∧ ∀ x∈l,x.dX) e w':=by
 have hl':=hl;unfold maxLen at hl';by_cases hn:left - (l.length:Int) < 0
 ·go_enter func14,ntmps14
  exact ZaK
 have HC:Hid (bg.ep w a l∧ ∀ x∈l,((x.prog.length≤maxLen∧ ∀ o∈x.prog,o.2.2.2.size≤maxLen)∧x.held.size≤maxLen∧x.got.size≤maxLen)):=⟨hc,hs⟩
 clear hc hs hl
 go_enter func14,ntmps14
 go_wp2_with fail
 go_loopw [1,5] (fun q i wr=> ∃ (k:Nat) (r:Int),k≤l.length∧i=i_ j_ k∧q=i_ j_ r∧0≤r∧r≤left - (l.length:Int)∧Hid ((∀ x∈l.take k,x.dX)∧r+(g9 (fun x:ao=>x.prog.length) (l.take k):Nat)≤left - (l.length:Int)∧B_ w.heap.size w wr)) (fun _ i _=>l.length - (Go.RowKit.intOf i).toNat)
 case atStart=>exact ⟨0,left - (l.length:Int),Ky _,rfl,rfl,by omega,by omega,⟨by simp,by simp [g9],Kp _ _⟩⟩
 case round=>
  obtain ⟨k,r,hk,rfl,rfl,r0,r1,HA⟩:=hrel;by_cases hlt:k < l.length
  ·have i0:(0:Int)≤(k:Int):=by omega
   have i1:(k:Int) < (l.length:Int):=by omega
   obtain ⟨x,hx⟩: ∃ x,l[k]? =o_ x:=⟨_,Kz hlt⟩
   have hmem:=KA hx;obtain ⟨b,off,rfl,hat⟩:=(HC.I.1.below HA.I.2.2).at hx;have c0:wr.cell? ⟨b,off+k * 12,n_⟩=o_ (i_ j_ x.id):=hat 0 _ rfl;have c1:wr.cell? ⟨b,off+k * 12+1,n_⟩=o_ (i_ j_ x.RX):=hat 1 _ rfl;have c2:wr.cell? ⟨b,off+k * 12+2,n_⟩=o_ (s_ x.aY x.prog.length x.bH):=hat 2 _ rfl;have c3:wr.cell? ⟨b,off+k * 12+3,n_⟩=o_ (i_ j_ x.Md):=hat 3 _ rfl;have c4:wr.cell? ⟨b,off+k * 12+4,n_⟩=o_ (i_ j_ x.pc):=hat 4 _ rfl;have c5:wr.cell? ⟨b,off+k * 12+5,n_⟩=o_ (i_ j_ x.left):=hat 5 _ rfl;have c6:wr.cell? ⟨b,off+k * 12+6,n_⟩=o_ (i_ j_ x.Mg):=hat 6 _ rfl;have c7:wr.cell? ⟨b,off+k * 12+7,n_⟩=o_ (i_ j_ x.on):=hat 7 _ rfl;have c8:wr.cell? ⟨b,off+k * 12+8,n_⟩=o_ (t_ x.held):=hat 8 _ rfl;have c9:wr.cell? ⟨b,off+k * 12+9,n_⟩=o_ (t_ x.got):=hat 9 _ rfl;have qF:wr.cell? ⟨b,off+k * 12+10,n_⟩=o_ (i_ j_ x.code):=hat 10 _ rfl;have pe:wr.cell? ⟨b,off+k * 12+11,n_⟩=o_ (i_ j_ x.RU):=hat 11 _ rfl;have HX:Hid (l[k]? =o_ x∧((x.prog.length≤maxLen∧ ∀ o∈x.prog,o.2.2.2.size≤maxLen)∧x.held.size≤maxLen∧x.got.size≤maxLen)):=⟨hx,HC.I.2 x hmem⟩
   have HK:Hid (fk.ep wr x.aY x.prog):=⟨((HC.I.1.below HA.I.2.2).bt hx (r:=(x.aY,fk.flat x.prog)) ZdQ),fun y _ r hr=>by simp [fk] at hr⟩
   clear hx hmem hat;go_wp2_with fail;refine (GX x r wr HX.I.2 HK.I r0 (by omega)).mono ?_;rintro e w1 ⟨r2,rfl,q0,q1,q2,hb1⟩;have fQ:Hid (B_ w.heap.size w w1∧(0≤r2→x.dX∧r2+(x.prog.length:Nat)≤r)):=⟨HA.I.2.2.trans (hb1.mono HA.I.2.2.size),q2⟩
   clear hb1 q2 c0 c1 c2 c3 c4 c5 c6 c7 c8 c9 qF pe;by_cases hneg:r2 < 0
   ·go_wp2
    go_ret;exact cT fQ.I.1 h0
   go_wp2;go_roundw
   case rel=>exact ⟨k+1,r2,by omega,by go_num,rfl,by omega,by omega,⟨nE HX.I.1 HA.I.1 (fQ.I.2 (by omega)).1,by rw [zg HX.I.1]; have h5:=(fQ.I.2 (by omega)).2; have h6:=HA.I.2.1; omega,fQ.I.1⟩⟩
   case measure=>simp [Go.RowKit.intOf]; omega
  ·exact J_
theorem GB (x:ao) (w:w_) (hl:x.prog.length≤1048576) (hc:fk.ep w x.aY x.prog):
  k_ J3 61 #[a_ x.row] w fun e w'=> ∃ a c,e=r_ (a_ (aX (aR.set x a c)))∧aR.cO w' (w.heap.size+1) (aR.set x a c)∧B_ w.heap.size w w':=by
 have HB:Hid (B_ w.heap.size w (((w.alloc (c_ x.row 86)).alloc (c_ cE 100)).alloc (c_ #[i_ j_ x.id,i_ j_ x.RX,s_ n_ 0 0,i_ j_ 0,i_ j_ 0,i_ j_ 0,i_ j_ 0,i_ j_ 0,t_ ⟨#[]⟩,t_ ⟨#[]⟩,i_ j_ 0,i_ j_ 0] 100))):=fg _ _ _ _;have HC:Hid (fk.ep (((w.alloc (c_ x.row 86)).alloc (c_ cE 100)).alloc (c_ #[i_ j_ x.id,i_ j_ x.RX,s_ n_ 0 0,i_ j_ 0,i_ j_ 0,i_ j_ 0,i_ j_ 0,i_ j_ 0,t_ ⟨#[]⟩,t_ ⟨#[]⟩,i_ j_ 0,i_ j_ 0] 100)) x.aY x.prog∧x.prog.length≤1048576):=⟨hc.below HB.I,hl⟩
 have HX:Hid ((((w.alloc (c_ x.row 86)).alloc (c_ cE 100)).alloc (c_ #[i_ j_ x.id,i_ j_ x.RX,s_ n_ 0 0,i_ j_ 0,i_ j_ 0,i_ j_ 0,i_ j_ 0,i_ j_ 0,t_ ⟨#[]⟩,t_ ⟨#[]⟩,i_ j_ 0,i_ j_ 0] 100)).heap[w.heap.size]? =o_ (c_ x.row 86)∧(((w.alloc (c_ x.row 86)).alloc (c_ cE 100)).alloc (c_ #[i_ j_ x.id,i_ j_ x.RX,s_ n_ 0 0,i_ j_ 0,i_ j_ 0,i_ j_ 0,i_ j_ 0,i_ j_ 0,t_ ⟨#[]⟩,t_ ⟨#[]⟩,i_ j_ 0,i_ j_ 0] 100)).heap[w.heap.size+1]? =o_ (c_ cE 100)∧(((w.alloc (c_ x.row 86)).alloc (c_ cE 100)).alloc (c_ #[i_ j_ x.id,i_ j_ x.RX,s_ n_ 0 0,i_ j_ 0,i_ j_ 0,i_ j_ 0,i_ j_ 0,i_ j_ 0,t_ ⟨#[]⟩,t_ ⟨#[]⟩,i_ j_ 0,i_ j_ 0] 100)).heap[w.heap.size+1+1]? =o_ (c_ #[i_ j_ x.id,i_ j_ x.RX,s_ n_ 0 0,i_ j_ 0,i_ j_ 0,i_ j_ 0,i_ j_ 0,i_ j_ 0,t_ ⟨#[]⟩,t_ ⟨#[]⟩,i_ j_ 0,i_ j_ 0] 100)∧(((w.alloc (c_ x.row 86)).alloc (c_ cE 100)).alloc (c_ #[i_ j_ x.id,i_ j_ x.RX,s_ n_ 0 0,i_ j_ 0,i_ j_ 0,i_ j_ 0,i_ j_ 0,i_ j_ 0,t_ ⟨#[]⟩,t_ ⟨#[]⟩,i_ j_ 0,i_ j_ 0] 100)).heap.size=w.heap.size+1+1+1):=dR _ _ _ _;clear hl hc
 go_enter func61,ntmps61
 go_wp2_with fail;generalize ((w.alloc (c_ x.row 86)).alloc (c_ cE 100)).alloc (c_ #[i_ j_ x.id,i_ j_ x.RX,s_ n_ 0 0,i_ j_ 0,i_ j_ 0,i_ j_ 0,i_ j_ 0,i_ j_ 0,t_ ⟨#[]⟩,t_ ⟨#[]⟩,i_ j_ 0,i_ j_ 0] 100)=W at *;refine (Jc x.aY x.prog x.bH W HC.I.2 HC.I.1).mono ?_;rintro e w1 ⟨rfl,hown,hb1⟩;have HM:Hid (aR.cO w1 W.heap.size (aR.set x (o_ ⟨W.heap.size,0,n_⟩) x.prog.length)∧B_ w.heap.size w w1):=⟨gd.rJ (N:=aR) hown,HB.I.trans (hb1.mono HB.I.size)⟩
 have y0:w1.heap[w.heap.size]? =o_ (c_ x.row 86):=(hb1.block _ Zc3).trans HX.I.1;have y1:w1.heap[w.heap.size+1]? =o_ (c_ cE 100):=(hb1.block _ Zc3).trans HX.I.2.1;have y2:w1.heap[w.heap.size+1+1]? =o_ (c_ #[i_ j_ x.id,i_ j_ x.RX,s_ n_ 0 0,i_ j_ 0,i_ j_ 0,i_ j_ 0,i_ j_ 0,i_ j_ 0,t_ ⟨#[]⟩,t_ ⟨#[]⟩,i_ j_ 0,i_ j_ 0] 100):=(hb1.block _ Zc3).trans HX.I.2.2.1;have t0:w1.cell? ⟨w.heap.size+1+1,0,n_⟩=o_ (i_ j_ x.id):=by simp [World.cell?,y2]
 have u0:w1.frozen? ⟨w.heap.size+1+1,0,n_⟩=false:=by simp [World.frozen?,y2]
 have t1:w1.cell? ⟨w.heap.size+1+1,1,n_⟩=o_ (i_ j_ x.RX):=by simp [World.cell?,y2]
 have u1:w1.frozen? ⟨w.heap.size+1+1,1,n_⟩=false:=by simp [World.frozen?,y2]
 have t2:w1.cell? ⟨w.heap.size+1+1,2,n_⟩=o_ (s_ n_ 0 0):=by simp [World.cell?,y2]
 have u2:w1.frozen? ⟨w.heap.size+1+1,2,n_⟩=false:=by simp [World.frozen?,y2]
 have s3:w1.cell? ⟨w.heap.size,3,n_⟩=o_ (i_ j_ x.Md):=by simp [World.cell?,y0]
 have t3:w1.cell? ⟨w.heap.size+1+1,3,n_⟩=o_ (i_ j_ 0):=by simp [World.cell?,y2]
 have u3:w1.frozen? ⟨w.heap.size+1+1,3,n_⟩=false:=by simp [World.frozen?,y2]
 have s4:w1.cell? ⟨w.heap.size,4,n_⟩=o_ (i_ j_ x.pc):=by simp [World.cell?,y0]
 have t4:w1.cell? ⟨w.heap.size+1+1,4,n_⟩=o_ (i_ j_ 0):=by simp [World.cell?,y2]
 have u4:w1.frozen? ⟨w.heap.size+1+1,4,n_⟩=false:=by simp [World.frozen?,y2]
 have s5:w1.cell? ⟨w.heap.size,5,n_⟩=o_ (i_ j_ x.left):=by simp [World.cell?,y0]
 have t5:w1.cell? ⟨w.heap.size+1+1,5,n_⟩=o_ (i_ j_ 0):=by simp [World.cell?,y2]
 have u5:w1.frozen? ⟨w.heap.size+1+1,5,n_⟩=false:=by simp [World.frozen?,y2]
 have s6:w1.cell? ⟨w.heap.size,6,n_⟩=o_ (i_ j_ x.Mg):=by simp [World.cell?,y0]
 have t6:w1.cell? ⟨w.heap.size+1+1,6,n_⟩=o_ (i_ j_ 0):=by simp [World.cell?,y2]
 have u6:w1.frozen? ⟨w.heap.size+1+1,6,n_⟩=false:=by simp [World.frozen?,y2]
 have s7:w1.cell? ⟨w.heap.size,7,n_⟩=o_ (i_ j_ x.on):=by simp [World.cell?,y0]
 have t7:w1.cell? ⟨w.heap.size+1+1,7,n_⟩=o_ (i_ j_ 0):=by simp [World.cell?,y2]
 have u7:w1.frozen? ⟨w.heap.size+1+1,7,n_⟩=false:=by simp [World.frozen?,y2]
 have s8:w1.cell? ⟨w.heap.size,8,n_⟩=o_ (t_ x.held):=by simp [World.cell?,y0]
 have t8:w1.cell? ⟨w.heap.size+1+1,8,n_⟩=o_ (t_ ⟨#[]⟩):=by simp [World.cell?,y2]
 have u8:w1.frozen? ⟨w.heap.size+1+1,8,n_⟩=false:=by simp [World.frozen?,y2]
 have s9:w1.cell? ⟨w.heap.size,9,n_⟩=o_ (t_ x.got):=by simp [World.cell?,y0]
 have t9:w1.cell? ⟨w.heap.size+1+1,9,n_⟩=o_ (t_ ⟨#[]⟩):=by simp [World.cell?,y2]
 have u9:w1.frozen? ⟨w.heap.size+1+1,9,n_⟩=false:=by simp [World.frozen?,y2]
 have s10:w1.cell? ⟨w.heap.size,10,n_⟩=o_ (i_ j_ x.code):=by simp [World.cell?,y0]
 have t10:w1.cell? ⟨w.heap.size+1+1,10,n_⟩=o_ (i_ j_ 0):=by simp [World.cell?,y2]
 have u10:w1.frozen? ⟨w.heap.size+1+1,10,n_⟩=false:=by simp [World.frozen?,y2]
 have s11:w1.cell? ⟨w.heap.size,11,n_⟩=o_ (i_ j_ x.RU):=by simp [World.cell?,y0]
 have t11:w1.cell? ⟨w.heap.size+1+1,11,n_⟩=o_ (i_ j_ 0):=by simp [World.cell?,y2]
 have u11:w1.frozen? ⟨w.heap.size+1+1,11,n_⟩=false:=by simp [World.frozen?,y2]
 have h5:=jc (off:=2) [s_ (o_ ⟨W.heap.size,0,n_⟩) x.prog.length x.prog.length,i_ j_ x.Md,i_ j_ x.pc,i_ j_ x.left,i_ j_ x.Mg,i_ j_ x.on,t_ x.held,t_ x.got,i_ j_ x.code,i_ j_ x.RU] y2;have h6:=(de (off:=2) [s_ (o_ ⟨W.heap.size,0,n_⟩) x.prog.length x.prog.length,i_ j_ x.Md,i_ j_ x.pc,i_ j_ x.left,i_ j_ x.Mg,i_ j_ x.on,t_ x.held,t_ x.got,i_ j_ x.code,i_ j_ x.RU] (w:=w1) (g:=w.heap.size+1+1) (k:=w.heap.size+1) (by omega)).trans y1;have h7:B_ w.heap.size w (bn w1 (w.heap.size+1+1) 2 [s_ (o_ ⟨W.heap.size,0,n_⟩) x.prog.length x.prog.length,i_ j_ x.Md,i_ j_ x.pc,i_ j_ x.left,i_ j_ x.Mg,i_ j_ x.on,t_ x.held,t_ x.got,i_ j_ x.code,i_ j_ x.RU]):=eU _ (by omega) HM.I.2;have h8:aR.cO (bn w1 (w.heap.size+1+1) 2 [s_ (o_ ⟨W.heap.size,0,n_⟩) x.prog.length x.prog.length,i_ j_ x.Md,i_ j_ x.pc,i_ j_ x.left,i_ j_ x.Mg,i_ j_ x.on,t_ x.held,t_ x.got,i_ j_ x.code,i_ j_ x.RU]) (w.heap.size+1) (aR.set x (o_ ⟨W.heap.size,0,n_⟩) x.prog.length):=(HM.I.1.low Zc3).same fun g hg=>by
  have:=(HM.I.1.lt hg).1
  have:=HX.I.2.2.2
  exact de _ (by omega)
 simp only [bn,Nat.reduceAdd] at h5 h6 h7 h8;have H5:Hid (((((((((((w1.setCell ⟨w.heap.size+1+1,2,n_⟩ (s_ (o_ ⟨W.heap.size,0,n_⟩) x.prog.length x.prog.length)).setCell ⟨w.heap.size+1+1,3,n_⟩ (i_ j_ x.Md)).setCell ⟨w.heap.size+1+1,4,n_⟩ (i_ j_ x.pc)).setCell ⟨w.heap.size+1+1,5,n_⟩ (i_ j_ x.left)).setCell ⟨w.heap.size+1+1,6,n_⟩ (i_ j_ x.Mg)).setCell ⟨w.heap.size+1+1,7,n_⟩ (i_ j_ x.on)).setCell ⟨w.heap.size+1+1,8,n_⟩ (t_ x.held)).setCell ⟨w.heap.size+1+1,9,n_⟩ (t_ x.got)).setCell ⟨w.heap.size+1+1,10,n_⟩ (i_ j_ x.code)).setCell ⟨w.heap.size+1+1,11,n_⟩ (i_ j_ x.RU)).heap[w.heap.size+1+1]? =o_ (c_ #[i_ j_ x.id,i_ j_ x.RX,s_ (o_ ⟨W.heap.size,0,n_⟩) x.prog.length x.prog.length,i_ j_ x.Md,i_ j_ x.pc,i_ j_ x.left,i_ j_ x.Mg,i_ j_ x.on,t_ x.held,t_ x.got,i_ j_ x.code,i_ j_ x.RU] 100)):=h5.trans (by simp [iD]);have H6:Hid (((((((((((w1.setCell ⟨w.heap.size+1+1,2,n_⟩ (s_ (o_ ⟨W.heap.size,0,n_⟩) x.prog.length x.prog.length)).setCell ⟨w.heap.size+1+1,3,n_⟩ (i_ j_ x.Md)).setCell ⟨w.heap.size+1+1,4,n_⟩ (i_ j_ x.pc)).setCell ⟨w.heap.size+1+1,5,n_⟩ (i_ j_ x.left)).setCell ⟨w.heap.size+1+1,6,n_⟩ (i_ j_ x.Mg)).setCell ⟨w.heap.size+1+1,7,n_⟩ (i_ j_ x.on)).setCell ⟨w.heap.size+1+1,8,n_⟩ (t_ x.held)).setCell ⟨w.heap.size+1+1,9,n_⟩ (t_ x.got)).setCell ⟨w.heap.size+1+1,10,n_⟩ (i_ j_ x.code)).setCell ⟨w.heap.size+1+1,11,n_⟩ (i_ j_ x.RU)).heap[w.heap.size+1]? =o_ (c_ cE 100)):=h6;have H7:Hid (B_ w.heap.size w ((((((((((w1.setCell ⟨w.heap.size+1+1,2,n_⟩ (s_ (o_ ⟨W.heap.size,0,n_⟩) x.prog.length x.prog.length)).setCell ⟨w.heap.size+1+1,3,n_⟩ (i_ j_ x.Md)).setCell ⟨w.heap.size+1+1,4,n_⟩ (i_ j_ x.pc)).setCell ⟨w.heap.size+1+1,5,n_⟩ (i_ j_ x.left)).setCell ⟨w.heap.size+1+1,6,n_⟩ (i_ j_ x.Mg)).setCell ⟨w.heap.size+1+1,7,n_⟩ (i_ j_ x.on)).setCell ⟨w.heap.size+1+1,8,n_⟩ (t_ x.held)).setCell ⟨w.heap.size+1+1,9,n_⟩ (t_ x.got)).setCell ⟨w.heap.size+1+1,10,n_⟩ (i_ j_ x.code)).setCell ⟨w.heap.size+1+1,11,n_⟩ (i_ j_ x.RU))∧aR.cO ((((((((((w1.setCell ⟨w.heap.size+1+1,2,n_⟩ (s_ (o_ ⟨W.heap.size,0,n_⟩) x.prog.length x.prog.length)).setCell ⟨w.heap.size+1+1,3,n_⟩ (i_ j_ x.Md)).setCell ⟨w.heap.size+1+1,4,n_⟩ (i_ j_ x.pc)).setCell ⟨w.heap.size+1+1,5,n_⟩ (i_ j_ x.left)).setCell ⟨w.heap.size+1+1,6,n_⟩ (i_ j_ x.Mg)).setCell ⟨w.heap.size+1+1,7,n_⟩ (i_ j_ x.on)).setCell ⟨w.heap.size+1+1,8,n_⟩ (t_ x.held)).setCell ⟨w.heap.size+1+1,9,n_⟩ (t_ x.got)).setCell ⟨w.heap.size+1+1,10,n_⟩ (i_ j_ x.code)).setCell ⟨w.heap.size+1+1,11,n_⟩ (i_ j_ x.RU)) (w.heap.size+1) (aR.set x (o_ ⟨W.heap.size,0,n_⟩) x.prog.length)):=⟨h7,h8⟩
 clear y0 y1 y2 hb1 hown h5 h6 h7 h8
 dsimp only
 repeat (first | (go_big_may; refine wpList_store_mid rfl 100 (Operand.tmp 2) (Operand.tmp 41) rfl (w.heap.size+1) 0 #[i_ j_ x.id,i_ j_ x.RX,s_ (o_ ⟨W.heap.size,0,n_⟩) x.prog.length x.prog.length,i_ j_ x.Md,i_ j_ x.pc,i_ j_ x.left,i_ j_ x.Mg,i_ j_ x.on,t_ x.held,t_ x.got,i_ j_ x.code,i_ j_ x.RU] rfl rfl ?ht ?hi ?h1 ?_) | go_values | go_skip | go_guarded | go_step | go_upon | go_back)
 case ht=>exact G7 H6.I (Ki _)
 case hi=>(show _=o_ 12; kernel_rfl)
 case h1=>simp [Value.oneCell']
 generalize ((((((((((w1.setCell ⟨w.heap.size+1+1,2,n_⟩ (s_ (o_ ⟨W.heap.size,0,n_⟩) x.prog.length x.prog.length)).setCell ⟨w.heap.size+1+1,3,n_⟩ (i_ j_ x.Md)).setCell ⟨w.heap.size+1+1,4,n_⟩ (i_ j_ x.pc)).setCell ⟨w.heap.size+1+1,5,n_⟩ (i_ j_ x.left)).setCell ⟨w.heap.size+1+1,6,n_⟩ (i_ j_ x.Mg)).setCell ⟨w.heap.size+1+1,7,n_⟩ (i_ j_ x.on)).setCell ⟨w.heap.size+1+1,8,n_⟩ (t_ x.held)).setCell ⟨w.heap.size+1+1,9,n_⟩ (t_ x.got)).setCell ⟨w.heap.size+1+1,10,n_⟩ (i_ j_ x.code)).setCell ⟨w.heap.size+1+1,11,n_⟩ (i_ j_ x.RU))=WZ at *
 repeat (first | go_values | go_skip | go_guarded | go_step | go_upon)
 have h9:(WZ.setCells (w.heap.size+1) 0 [i_ j_ x.id,i_ j_ x.RX,s_ (o_ ⟨W.heap.size,0,n_⟩) x.prog.length x.prog.length,i_ j_ x.Md,i_ j_ x.pc,i_ j_ x.left,i_ j_ x.Mg,i_ j_ x.on,t_ x.held,t_ x.got,i_ j_ x.code,i_ j_ x.RU]).heap[w.heap.size+1]? =o_ (c_ #[i_ j_ x.id,i_ j_ x.RX,s_ (o_ ⟨W.heap.size,0,n_⟩) x.prog.length x.prog.length,i_ j_ x.Md,i_ j_ x.pc,i_ j_ x.left,i_ j_ x.Mg,i_ j_ x.on,t_ x.held,t_ x.got,i_ j_ x.code,i_ j_ x.RU] 100):=by rw [iL]; exact ri H6.I rfl
 refine KT (v:=a_ #[i_ j_ x.id,i_ j_ x.RX,s_ (o_ ⟨W.heap.size,0,n_⟩) x.prog.length x.prog.length,i_ j_ x.Md,i_ j_ x.pc,i_ j_ x.left,i_ j_ x.Mg,i_ j_ x.on,t_ x.held,t_ x.got,i_ j_ x.code,i_ j_ x.RU]) (results_cell_row results61 _ _ (w.heap.size+1) _ _ (0,0) _ rfl h9 underlying100 rfl ZcR) rfl ?_;refine ⟨o_ ⟨W.heap.size,0,n_⟩,x.prog.length,rfl,?_,?_⟩
 ·rw [iL]
  exact H7.I.2.same fun g hg=>de _ (by have:=(HM.I.1.lt hg).1; have:=HX.I.2.2.2; omega)
 ·rw [iL]
  exact eU _ (by omega) H7.I.1
theorem Gd:(Tryz.prog.info? 100).map (fun i=>(i.zero,i.size,decide (i.bytes≤1000)))=o_ (o_ (a_ cE),12,true):=by kernel_rfl
theorem GZ (n:Nat) (hn:n≤1048576) (w:w_):
  (Instr.makeSlice 31 (i_ j_ (n:Int)) (i_ j_ (n:Int))).run J3 w= .ok (s_ (o_ ⟨w.heap.size,0,n_⟩) n n) (w.alloc (c_ (madeCells cE (n * 12)) 100)):=by
 obtain ⟨i,hi,e⟩:=Kw.1 Gd;simp only [Kx,decide_eq_true_eq] at e;obtain ⟨e1,e2,e3⟩:=e;have hby:n * i.bytes≤1048576 * 1000:=acA hn e3
 have:=run_make (P:=J3) w 31 100 i _ underlying31 hi e1 j_ j_ n n (by omega) (by omega) ZcX (by omega)
 exact ZaU
theorem ET (a:Option d_) (l:List ao) (cap:Nat) (w:w_) (hl:l.length≤1048576) (hk: ∀ x∈l,x.prog.length≤1048576) (hc:bg.ep w a l):
  k_ J3 24 #[s_ a l.length cap] w fun e w'=>e=r_ (s_ (o_ ⟨w.heap.size,0,n_⟩) l.length l.length)∧ ∃ I,sd aR bg w w' l.length l I:=by
 have hmk:=GZ l.length hl;have HC:Hid (bg.ep w a l):=hc;have HKL:Hid (∀ x∈l,x.prog.length≤1048576):=hk;clear hk;have HF:Hid (gb bg 100 w (w.alloc (c_ (madeCells cE (l.length * 12)) 100)) l.length []):=gb.start Zdi;clear hc
 go_enter func24,ntmps24
 go_wp2_with fail
 go_loopw [4] (fun i wr=> ∃ k:Nat,k≤l.length∧i=i_ j_ k∧ ∃ I,Hid (iV aR bg w wr l I k)) (fun i _=>l.length - (Go.RowKit.intOf i).toNat)
 case atStart=>exact ⟨0,Ky _,rfl,[],iV.start HF.I⟩
 case round=>
  clear hmk HF;obtain ⟨k,hk,rfl,I,HR⟩:=hrel;by_cases hlt:k < l.length
  ·have i0:(0:Int)≤(k:Int):=by omega
   have i1:(k:Int) < (l.length:Int):=by omega
   obtain ⟨x,hx⟩: ∃ x,l[k]? =o_ x:=⟨_,Kz hlt⟩
   obtain ⟨b,off,rfl,hat⟩:=(HC.I.below HR.I.fill.cd).at hx;have c0:wr.cell? ⟨b,off+k * 12,n_⟩=o_ (i_ j_ x.id):=hat 0 _ rfl;have c1:wr.cell? ⟨b,off+k * 12+1,n_⟩=o_ (i_ j_ x.RX):=hat 1 _ rfl;have c2:wr.cell? ⟨b,off+k * 12+2,n_⟩=o_ (s_ x.aY x.prog.length x.bH):=hat 2 _ rfl;have c3:wr.cell? ⟨b,off+k * 12+3,n_⟩=o_ (i_ j_ x.Md):=hat 3 _ rfl;have c4:wr.cell? ⟨b,off+k * 12+4,n_⟩=o_ (i_ j_ x.pc):=hat 4 _ rfl;have c5:wr.cell? ⟨b,off+k * 12+5,n_⟩=o_ (i_ j_ x.left):=hat 5 _ rfl;have c6:wr.cell? ⟨b,off+k * 12+6,n_⟩=o_ (i_ j_ x.Mg):=hat 6 _ rfl;have c7:wr.cell? ⟨b,off+k * 12+7,n_⟩=o_ (i_ j_ x.on):=hat 7 _ rfl;have c8:wr.cell? ⟨b,off+k * 12+8,n_⟩=o_ (t_ x.held):=hat 8 _ rfl;have c9:wr.cell? ⟨b,off+k * 12+9,n_⟩=o_ (t_ x.got):=hat 9 _ rfl;have qF:wr.cell? ⟨b,off+k * 12+10,n_⟩=o_ (i_ j_ x.code):=hat 10 _ rfl;have pe:wr.cell? ⟨b,off+k * 12+11,n_⟩=o_ (i_ j_ x.RU):=hat 11 _ rfl;have HX:Hid (l[k]? =o_ x):=hx;have HK:Hid (fk.ep wr x.aY x.prog∧x.prog.length≤1048576):=⟨⟨((HC.I.below HR.I.fill.cd).bt hx (r:=(x.aY,fk.flat x.prog)) ZdQ),fun y _ r hr=>by simp [fk] at hr⟩,HKL.I x (KA hx)⟩
   have hfl:=HR.I.fill.lt;clear hx hat;go_wp2_with fail;refine (GB x wr HK.I.2 HK.I.1).mono ?_;rintro e w1 ⟨a1,DJ,rfl,la,hb1⟩;have pG:Hid (iV aR bg w w1 l I k):=HR.I.below hb1;have fQ:Hid (wr.heap.size≤w1.heap.size):=hb1.size;obtain ⟨⟨u,hu⟩,hf⟩:=pG.I.fill.at;have d0:=hu (k * 12) (by show k * 12 < l.length * 12; omega);have f0:=hf (k * 12);have d1:=hu (k * 12+1) (by show k * 12+1 < l.length * 12; omega);have f1:=hf (k * 12+1);have d2:=hu (k * 12+2) (by show k * 12+2 < l.length * 12; omega);have f2:=hf (k * 12+2);have d3:=hu (k * 12+3) (by show k * 12+3 < l.length * 12; omega);have f3:=hf (k * 12+3);have d4:=hu (k * 12+4) (by show k * 12+4 < l.length * 12; omega);have f4:=hf (k * 12+4);have d5:=hu (k * 12+5) (by show k * 12+5 < l.length * 12; omega);have f5:=hf (k * 12+5);have d6:=hu (k * 12+6) (by show k * 12+6 < l.length * 12; omega);have f6:=hf (k * 12+6);have d7:=hu (k * 12+7) (by show k * 12+7 < l.length * 12; omega);have f7:=hf (k * 12+7);have d8:=hu (k * 12+8) (by show k * 12+8 < l.length * 12; omega);have f8:=hf (k * 12+8);have d9:=hu (k * 12+9) (by show k * 12+9 < l.length * 12; omega);have f9:=hf (k * 12+9);have tH:=hu (k * 12+10) (by show k * 12+10 < l.length * 12; omega);have f10:=hf (k * 12+10);have tS:=hu (k * 12+11) (by show k * 12+11 < l.length * 12; omega);have f11:=hf (k * 12+11);have h5:=pG.I.more hlt HX.I (la.low (by have:=hfl; omega)) (fun g hg=>by have:=(la.lt hg).1; omega) HR.I;rw [show bg.vals (aR.set x a1 DJ)= [i_ j_ x.id,i_ j_ x.RX,s_ a1 x.prog.length DJ,i_ j_ x.Md,i_ j_ x.pc,i_ j_ x.left,i_ j_ x.Mg,i_ j_ x.on,t_ x.held,t_ x.got,i_ j_ x.code,i_ j_ x.RU] from rfl,show bg.n=12 from rfl] at h5;simp only [bn,adV,Nat.reduceAdd] at h5;have HS:Hid (iV aR bg w ((((((((((((w1.setCell ⟨w.heap.size,k * 12,n_⟩ (i_ j_ x.id)).setCell ⟨w.heap.size,k * 12+1,n_⟩ (i_ j_ x.RX)).setCell ⟨w.heap.size,k * 12+2,n_⟩ (s_ a1 x.prog.length DJ)).setCell ⟨w.heap.size,k * 12+3,n_⟩ (i_ j_ x.Md)).setCell ⟨w.heap.size,k * 12+4,n_⟩ (i_ j_ x.pc)).setCell ⟨w.heap.size,k * 12+5,n_⟩ (i_ j_ x.left)).setCell ⟨w.heap.size,k * 12+6,n_⟩ (i_ j_ x.Mg)).setCell ⟨w.heap.size,k * 12+7,n_⟩ (i_ j_ x.on)).setCell ⟨w.heap.size,k * 12+8,n_⟩ (t_ x.held)).setCell ⟨w.heap.size,k * 12+9,n_⟩ (t_ x.got)).setCell ⟨w.heap.size,k * 12+10,n_⟩ (i_ j_ x.code)).setCell ⟨w.heap.size,k * 12+11,n_⟩ (i_ j_ x.RU)) l (I ++ [aR.set x a1 DJ]) (k+1)):=h5;clear h5;unfold aX;clear hu hf hb1 HR pG la c0 c1 c2 c3 c4 c5 c6 c7 c8 c9 qF pe;go_wp2;go_roundw
   case rel=>exact ⟨k+1,by omega,by go_num,_,HS.I⟩
   case measure=>simp [Go.RowKit.intOf]; omega
  ·exact Zac
theorem G9 (x y:ao) (w:w_) (hp:y.toaD=x.toaD) (hl:x.prog.length≤1048576) (hx:Row w x.aY (fk.flat x.prog)) (hy:Row w y.aY (fk.flat y.prog)):
  k_ J3 67 #[a_ x.row,a_ y.row] w fun e w'=>e=r_ (b_ true)∧B_ w.heap.size w w':=by
 obtain ⟨p,xa,xc⟩:=x;obtain ⟨p',ya,yc⟩:=y;simp only at hp;subst hp;obtain ⟨v0,v1,v2,v3,v4,v5,v6,v7,v8,v9,v10,v11⟩:=p';simp only at hl hx hy;have HB:Hid (B_ w.heap.size w ((w.alloc (c_ #[i_ j_ v0,i_ j_ v1,s_ xa v2.length xc,i_ j_ v3,i_ j_ v4,i_ j_ v5,i_ j_ v6,i_ j_ v7,t_ v8,t_ v9,i_ j_ v10,i_ j_ v11] 100)).alloc (c_ #[i_ j_ v0,i_ j_ v1,s_ ya v2.length yc,i_ j_ v3,i_ j_ v4,i_ j_ v5,i_ j_ v6,i_ j_ v7,t_ v8,t_ v9,i_ j_ v10,i_ j_ v11] 100))):=dT _ _ _;have HR:Hid (Row ((w.alloc (c_ #[i_ j_ v0,i_ j_ v1,s_ xa v2.length xc,i_ j_ v3,i_ j_ v4,i_ j_ v5,i_ j_ v6,i_ j_ v7,t_ v8,t_ v9,i_ j_ v10,i_ j_ v11] 100)).alloc (c_ #[i_ j_ v0,i_ j_ v1,s_ ya v2.length yc,i_ j_ v3,i_ j_ v4,i_ j_ v5,i_ j_ v6,i_ j_ v7,t_ v8,t_ v9,i_ j_ v10,i_ j_ v11] 100)) xa (fk.flat v2)∧Row ((w.alloc (c_ #[i_ j_ v0,i_ j_ v1,s_ xa v2.length xc,i_ j_ v3,i_ j_ v4,i_ j_ v5,i_ j_ v6,i_ j_ v7,t_ v8,t_ v9,i_ j_ v10,i_ j_ v11] 100)).alloc (c_ #[i_ j_ v0,i_ j_ v1,s_ ya v2.length yc,i_ j_ v3,i_ j_ v4,i_ j_ v5,i_ j_ v6,i_ j_ v7,t_ v8,t_ v9,i_ j_ v10,i_ j_ v11] 100)) ya (fk.flat v2)∧v2.length≤1048576):=⟨hx.below HB.I,hy.below HB.I,hl⟩
 have HX:Hid (((w.alloc (c_ #[i_ j_ v0,i_ j_ v1,s_ xa v2.length xc,i_ j_ v3,i_ j_ v4,i_ j_ v5,i_ j_ v6,i_ j_ v7,t_ v8,t_ v9,i_ j_ v10,i_ j_ v11] 100)).alloc (c_ #[i_ j_ v0,i_ j_ v1,s_ ya v2.length yc,i_ j_ v3,i_ j_ v4,i_ j_ v5,i_ j_ v6,i_ j_ v7,t_ v8,t_ v9,i_ j_ v10,i_ j_ v11] 100)).heap[w.heap.size]? =o_ (c_ #[i_ j_ v0,i_ j_ v1,s_ xa v2.length xc,i_ j_ v3,i_ j_ v4,i_ j_ v5,i_ j_ v6,i_ j_ v7,t_ v8,t_ v9,i_ j_ v10,i_ j_ v11] 100)∧((w.alloc (c_ #[i_ j_ v0,i_ j_ v1,s_ xa v2.length xc,i_ j_ v3,i_ j_ v4,i_ j_ v5,i_ j_ v6,i_ j_ v7,t_ v8,t_ v9,i_ j_ v10,i_ j_ v11] 100)).alloc (c_ #[i_ j_ v0,i_ j_ v1,s_ ya v2.length yc,i_ j_ v3,i_ j_ v4,i_ j_ v5,i_ j_ v6,i_ j_ v7,t_ v8,t_ v9,i_ j_ v10,i_ j_ v11] 100)).heap[w.heap.size+1]? =o_ (c_ #[i_ j_ v0,i_ j_ v1,s_ ya v2.length yc,i_ j_ v3,i_ j_ v4,i_ j_ v5,i_ j_ v6,i_ j_ v7,t_ v8,t_ v9,i_ j_ v10,i_ j_ v11] 100)):=cZ _ _ _;clear hx hy hl
 go_enter func67,ntmps67
 go_wp2_with fail;generalize (w.alloc (c_ #[i_ j_ v0,i_ j_ v1,s_ xa v2.length xc,i_ j_ v3,i_ j_ v4,i_ j_ v5,i_ j_ v6,i_ j_ v7,t_ v8,t_ v9,i_ j_ v10,i_ j_ v11] 100)).alloc (c_ #[i_ j_ v0,i_ j_ v1,s_ ya v2.length yc,i_ j_ v3,i_ j_ v4,i_ j_ v5,i_ j_ v6,i_ j_ v7,t_ v8,t_ v9,i_ j_ v10,i_ j_ v11] 100)=W at *;refine (I6 xa ya v2 xc yc W HR.I.2.2 ⟨HR.I.1,fun _ _ r hr=>by simp [fk] at hr⟩ ⟨HR.I.2.1,fun _ _ r hr=>by simp [fk] at hr⟩).mono ?_;rintro e w1 ⟨rfl,hb1⟩;have fQ:Hid (B_ w.heap.size w w1):=HB.I.trans (hb1.mono HB.I.size);have x0:=(hb1.block _ (J2.1 HX.I.1).1).trans HX.I.1;have x1:=(hb1.block _ (J2.1 HX.I.2).1).trans HX.I.2;have a3:w1.cell? ⟨w.heap.size,3,n_⟩=o_ (i_ j_ v3):=by simp [World.cell?,x0]
 have b3:w1.cell? ⟨w.heap.size+1,3,n_⟩=o_ (i_ j_ v3):=by simp [World.cell?,x1]
 have a4:w1.cell? ⟨w.heap.size,4,n_⟩=o_ (i_ j_ v4):=by simp [World.cell?,x0]
 have b4:w1.cell? ⟨w.heap.size+1,4,n_⟩=o_ (i_ j_ v4):=by simp [World.cell?,x1]
 have a5:w1.cell? ⟨w.heap.size,5,n_⟩=o_ (i_ j_ v5):=by simp [World.cell?,x0]
 have b5:w1.cell? ⟨w.heap.size+1,5,n_⟩=o_ (i_ j_ v5):=by simp [World.cell?,x1]
 have a6:w1.cell? ⟨w.heap.size,6,n_⟩=o_ (i_ j_ v6):=by simp [World.cell?,x0]
 have b6:w1.cell? ⟨w.heap.size+1,6,n_⟩=o_ (i_ j_ v6):=by simp [World.cell?,x1]
 have a7:w1.cell? ⟨w.heap.size,7,n_⟩=o_ (i_ j_ v7):=by simp [World.cell?,x0]
 have b7:w1.cell? ⟨w.heap.size+1,7,n_⟩=o_ (i_ j_ v7):=by simp [World.cell?,x1]
 have a8:w1.cell? ⟨w.heap.size,8,n_⟩=o_ (t_ v8):=by simp [World.cell?,x0]
 have b8:w1.cell? ⟨w.heap.size+1,8,n_⟩=o_ (t_ v8):=by simp [World.cell?,x1]
 have a9:w1.cell? ⟨w.heap.size,9,n_⟩=o_ (t_ v9):=by simp [World.cell?,x0]
 have b9:w1.cell? ⟨w.heap.size+1,9,n_⟩=o_ (t_ v9):=by simp [World.cell?,x1]
 have a10:w1.cell? ⟨w.heap.size,10,n_⟩=o_ (i_ j_ v10):=by simp [World.cell?,x0]
 have b10:w1.cell? ⟨w.heap.size+1,10,n_⟩=o_ (i_ j_ v10):=by simp [World.cell?,x1]
 have a11:w1.cell? ⟨w.heap.size,11,n_⟩=o_ (i_ j_ v11):=by simp [World.cell?,x0]
 have b11:w1.cell? ⟨w.heap.size+1,11,n_⟩=o_ (i_ j_ v11):=by simp [World.cell?,x1]
 clear hb1 HX HR x0 x1;go_wp2;go_ret;exact ⟨rfl,fQ.I⟩
def yR (w:w_) (a a':Option d_) (l l':List ao) (x y:ao) (g g' k:Nat) (w':w_):Prop:=((w'.cell? ⟨g,k * 12,n_⟩=o_ (i_ j_ x.id)∧w'.cell? ⟨g,k * 12+1,n_⟩=o_ (i_ j_ x.RX)∧w'.cell? ⟨g,k * 12+2,n_⟩=o_ (s_ x.aY x.prog.length x.bH)∧w'.cell? ⟨g,k * 12+3,n_⟩=o_ (i_ j_ x.Md)∧w'.cell? ⟨g,k * 12+4,n_⟩=o_ (i_ j_ x.pc)∧w'.cell? ⟨g,k * 12+5,n_⟩=o_ (i_ j_ x.left)∧w'.cell? ⟨g,k * 12+6,n_⟩=o_ (i_ j_ x.Mg)∧w'.cell? ⟨g,k * 12+7,n_⟩=o_ (i_ j_ x.on)∧w'.cell? ⟨g,k * 12+8,n_⟩=o_ (t_ x.held)∧w'.cell? ⟨g,k * 12+9,n_⟩=o_ (t_ x.got)∧w'.cell? ⟨g,k * 12+10,n_⟩=o_ (i_ j_ x.code)∧w'.cell? ⟨g,k * 12+11,n_⟩=o_ (i_ j_ x.RU))∧(w'.cell? ⟨g',k * 12,n_⟩=o_ (i_ j_ y.id)∧w'.cell? ⟨g',k * 12+1,n_⟩=o_ (i_ j_ y.RX)∧w'.cell? ⟨g',k * 12+2,n_⟩=o_ (s_ y.aY y.prog.length y.bH)∧w'.cell? ⟨g',k * 12+3,n_⟩=o_ (i_ j_ y.Md)∧w'.cell? ⟨g',k * 12+4,n_⟩=o_ (i_ j_ y.pc)∧w'.cell? ⟨g',k * 12+5,n_⟩=o_ (i_ j_ y.left)∧w'.cell? ⟨g',k * 12+6,n_⟩=o_ (i_ j_ y.Mg)∧w'.cell? ⟨g',k * 12+7,n_⟩=o_ (i_ j_ y.on)∧w'.cell? ⟨g',k * 12+8,n_⟩=o_ (t_ y.held)∧w'.cell? ⟨g',k * 12+9,n_⟩=o_ (t_ y.got)∧w'.cell? ⟨g',k * 12+10,n_⟩=o_ (i_ j_ y.code)∧w'.cell? ⟨g',k * 12+11,n_⟩=o_ (i_ j_ y.RU)))∧Hid (bg.bU w' a l∧bg.bU w' a' l'∧B_ w.heap.size w w')
theorem qa {w w':w_} {a a':Option d_} {l l':List ao} {x y:ao} {g g' k:Nat} (ha:a=o_ ⟨g,0,n_⟩) (ha':a'=o_ ⟨g',0,n_⟩) (hx:l[k]? =o_ x) (hy:l'[k]? =o_ y) (h:bg.bU w' a l∧bg.bU w' a' l'∧B_ w.heap.size w w'):yR w a a' l l' x y g g' k w':=by
 obtain ⟨g1,e1,h1⟩:=h.1.at hx;obtain ⟨g2,e2,h2⟩:=h.2.1.at hy;rw [ha] at e1;rw [ha'] at e2;cases e1;cases e2;exact ⟨⟨⟨h1 0 _ rfl,h1 1 _ rfl,h1 2 _ rfl,h1 3 _ rfl,h1 4 _ rfl,h1 5 _ rfl,h1 6 _ rfl,h1 7 _ rfl,h1 8 _ rfl,h1 9 _ rfl,h1 10 _ rfl,h1 11 _ rfl⟩,⟨h2 0 _ rfl,h2 1 _ rfl,h2 2 _ rfl,h2 3 _ rfl,h2 4 _ rfl,h2 5 _ rfl,h2 6 _ rfl,h2 7 _ rfl,h2 8 _ rfl,h2 9 _ rfl,h2 10 _ rfl,h2 11 _ rfl⟩⟩,h⟩
theorem Ff (a a':Option d_) (l l':List ao) (cap cap':Nat) (w:w_) (hl:l.length≤1048576) (hk: ∀ x∈l,x.prog.length≤1048576) (hp:l'.map (·.toaD)=l.map (·.toaD)) (h:bg.bU w a l) (h':bg.bU w a' l'):
  k_ J3 30 #[s_ a l.length cap,s_ a' l.length cap'] w fun e w'=>e=r_ (b_ true)∧B_ w.heap.size w w':=by
 have HL:Hid (bg.bU w a l∧bg.bU w a' l'∧(∀ x∈l,x.prog.length≤1048576)∧l'.map (·.toaD)=l.map (·.toaD)):=⟨h,h',hk,hp⟩
 clear h h' hk hp
 go_enter func30,ntmps30
 go_wp2_with fail
 go_loopw [5] (fun i wr=> ∃ k:Nat,k≤l.length∧i=i_ j_ k∧Hid (B_ w.heap.size w wr)) (fun i _=>l.length - (Go.RowKit.intOf i).toNat)
 case atStart=>exact ⟨0,Ky _,rfl,Kp _ _⟩
 case round=>
  obtain ⟨k,hk,rfl,HB⟩:=hrel;by_cases hlt:k < l.length
  ·have i0:(0:Int)≤(k:Int):=by omega
   have i1:(k:Int) < (l.length:Int):=by omega
   obtain ⟨x,hx⟩: ∃ x,l[k]? =o_ x:=⟨_,Kz hlt⟩
   obtain ⟨g,ha,-⟩:=HL.I.1.at hx;obtain ⟨y,hy,hpy⟩:=uH HL.I.2.2.2 hx;obtain ⟨g',ha',-⟩:=HL.I.2.1.at hy;have HX:Hid (a=o_ ⟨g,0,n_⟩∧a'=o_ ⟨g',0,n_⟩∧l[k]? =o_ x∧l'[k]? =o_ y∧y.toaD=x.toaD∧x.prog.length≤1048576):=⟨ha,ha',hx,hy,hpy,HL.I.2.2.1 x (KA hx)⟩
   have HS:Hid (yR w a a' l l' x y g g' k wr):=qa ha ha' hx hy ⟨HL.I.1.below HB.I,HL.I.2.1.below HB.I,HB.I⟩;clear hx hy hpy;rw [ha,ha'];clear ha ha';go_wp2_with fail;refine aT (yR w a a' l l' x y g g' k) ZcR (qa HX.I.1 HX.I.2.1 HX.I.2.2.1 HX.I.2.2.2.1 ⟨HS.I.2.I.1.below (Kp _ _).drew,HS.I.2.I.2.1.below (Kp _ _).drew,HS.I.2.I.2.2.drew⟩) ?_
   iterate 8 (refine PI ?_ (hy:=fun w0 hS0=>by obtain ⟨⟨⟨q0,q1,q2,q3,q4,q5,q6,q7,q8,q9,kY,kV⟩,⟨r0,r1,r2,r3,r4,r5,r6,r7,r8,r9,Ju,Jq⟩⟩,hH⟩:=hS0; go_simp; try with_reducible rfl))
   refine cl (b_ true) 67 #[a_ x.row,a_ y.row] ?_ ?_ ?_
   ·intro w0 hS0
    obtain ⟨⟨⟨q0,q1,q2,q3,q4,q5,q6,q7,q8,q9,kY,kV⟩,⟨r0,r1,r2,r3,r4,r5,r6,r7,r8,r9,Ju,Jq⟩⟩,hH⟩:=hS0
    exact wl
   ·intro w0 hS0
    refine (G9 x y w0 HX.I.2.2.2.2.1 HX.I.2.2.2.2.2 (hS0.2.I.1.bt HX.I.2.2.1 (r:=(x.aY,fk.flat x.prog)) ZdQ) (hS0.2.I.2.1.bt HX.I.2.2.2.1 (r:=(y.aY,fk.flat y.prog)) ZdQ)).mono ?_;rintro e w2 ⟨rfl,hb2⟩;exact ⟨rfl,qa HX.I.1 HX.I.2.1 HX.I.2.2.1 HX.I.2.2.2.1 ⟨hS0.2.I.1.below hb2,hS0.2.I.2.1.below hb2,hS0.2.I.2.2.trans (hb2.mono hS0.2.I.2.2.size)⟩⟩
   simp only [pt,sb,s0,s1]
   (refine PI ?_ (hy:=fun w0 hS0=>by obtain ⟨⟨⟨q0,q1,q2,q3,q4,q5,q6,q7,q8,q9,kY,kV⟩,⟨r0,r1,r2,r3,r4,r5,r6,r7,r8,r9,Ju,Jq⟩⟩,hH⟩:=hS0; go_simp; try with_reducible rfl))
   refine bk ZcR ?_ _;intro w1 cm;have HZ:Hid (B_ w.heap.size w w1):=cm.2.I.2.2;clear cm;go_wp2;go_roundw
   case rel=>exact ⟨k+1,by omega,by go_num,HZ.I⟩
   case measure=>simp [Go.RowKit.intOf]; omega
  ·exact BT
theorem Cx (x:au) (left:Int) (w:w_) (hb:(x.Ma.length≤maxLen∧ ∀ s∈x.Ma,s.size≤maxLen)) (hc:bT.ep w x.ak x.Ma) (h0:0≤left) (h1:left≤1048576):
  k_ J3 54 #[a_ #[i_ j_ x.id,i_ j_ x.max,s_ x.ak x.Ma.length x.aq],i_ j_ left] w fun e w'=>jZ w left (x.Ma.length) ((x.Ma.length≤1048576∧ ∀ s∈x.Ma,s.size≤1048576)) e w':=by
 have HB:Hid ((x.Ma.length≤maxLen∧ ∀ s∈x.Ma,s.size≤maxLen)):=hb;have HC:Hid (bT.ep (w.alloc (c_ #[i_ j_ x.id,i_ j_ x.max,s_ x.ak x.Ma.length x.aq] 93)) x.ak x.Ma):=hc.below ((Kp _ _).alloc (Ki _) _);clear hc;have HW:Hid (B_ w.heap.size w (w.alloc (c_ #[i_ j_ x.id,i_ j_ x.max,s_ x.ak x.Ma.length x.aq] 93))):=(Kp _ _).alloc (Ki _) _;clear hb
 go_enter func54,ntmps54
 have HX:Hid ((w.alloc (c_ #[i_ j_ x.id,i_ j_ x.max,s_ x.ak x.Ma.length x.aq] 93)).heap[w.heap.size]? =o_ (c_ #[i_ j_ x.id,i_ j_ x.max,s_ x.ak x.Ma.length x.aq] 93)):=Kj _ _;go_wp2_with fail;generalize w.alloc (c_ #[i_ j_ x.id,i_ j_ x.max,s_ x.ak x.Ma.length x.aq] 93)=W at *;refine (AX x.ak x.Ma x.aq left W HB.I.1 HC.I HB.I.2 h0 h1).mono ?_;rintro e w1 ⟨r1,rfl,q0,q1,q2,hb1⟩;have fQ:Hid (B_ w.heap.size w w1):=HW.I.trans (hb1.mono HW.I.size);have xi:Hid (w1.heap[w.heap.size]? =o_ (c_ #[i_ j_ x.id,i_ j_ x.max,s_ x.ak x.Ma.length x.aq] 93)):=(hb1.block _ (J2.1 HX.I).1).trans HX.I;exact Zal
theorem Ca (a:Option d_) (l:List au) (cap:Nat) (left:Int) (w:w_) (hl:l.length≤maxLen) (hc:bm.ep w a l) (hs: ∀ x∈l,(x.Ma.length≤maxLen∧ ∀ s∈x.Ma,s.size≤maxLen)) (h0:0≤left) (h1:left≤1048576):
  k_ J3 18 #[s_ a l.length cap,i_ j_ left] w fun e w'=>jZ w left (l.length+g9 (fun x:au=>x.Ma.length) l) (l.length≤1048576∧ ∀ x∈l,(x.Ma.length≤1048576∧ ∀ s∈x.Ma,s.size≤1048576)) e w':=by
 have hl':=hl;unfold maxLen at hl';by_cases hn:left - (l.length:Int) < 0
 ·go_enter func18,ntmps18
  exact ZaK
 have HC:Hid (bm.ep w a l∧ ∀ x∈l,(x.Ma.length≤maxLen∧ ∀ s∈x.Ma,s.size≤maxLen)):=⟨hc,hs⟩
 clear hc hs hl
 go_enter func18,ntmps18
 go_wp2_with fail
 go_loopw [1,5] (fun q i wr=> ∃ (k:Nat) (r:Int),k≤l.length∧i=i_ j_ k∧q=i_ j_ r∧0≤r∧r≤left - (l.length:Int)∧Hid ((∀ x∈l.take k,(x.Ma.length≤1048576∧ ∀ s∈x.Ma,s.size≤1048576))∧r+(g9 (fun x:au=>x.Ma.length) (l.take k):Nat)≤left - (l.length:Int)∧B_ w.heap.size w wr)) (fun _ i _=>l.length - (intOf i).toNat)
 case atStart=>exact ⟨0,left - (l.length:Int),Ky _,rfl,rfl,by omega,by omega,⟨by simp,by simp [g9],Kp _ _⟩⟩
 case round=>
  obtain ⟨k,r,hk,rfl,rfl,r0,r1,HA⟩:=hrel;by_cases hlt:k < l.length
  ·have i0:(0:Int)≤(k:Int):=by omega
   have i1:(k:Int) < (l.length:Int):=by omega
   obtain ⟨x,hx⟩: ∃ x,l[k]? =o_ x:=⟨_,Kz hlt⟩
   have hmem:=KA hx;obtain ⟨b,off,rfl,hat⟩:=(HC.I.1.below HA.I.2.2).at hx;have c0:wr.cell? ⟨b,off+k * 3,n_⟩=o_ (i_ j_ x.id):=hat 0 _ rfl;have c1:wr.cell? ⟨b,off+k * 3+1,n_⟩=o_ (i_ j_ x.max):=hat 1 _ rfl;have c2:wr.cell? ⟨b,off+k * 3+2,n_⟩=o_ (s_ x.ak x.Ma.length x.aq):=hat 2 _ rfl;have HX:Hid (l[k]? =o_ x∧(x.Ma.length≤maxLen∧ ∀ s∈x.Ma,s.size≤maxLen)):=⟨hx,HC.I.2 x hmem⟩
   have HK:Hid (bT.ep wr x.ak x.Ma):=⟨((HC.I.1.below HA.I.2.2).bt hx (r:=(x.ak,bT.flat x.Ma)) ZdP),fun y _ r hr=>by simp [bT] at hr⟩
   clear hx hmem hat;go_wp2_with fail;refine (Cx x r wr HX.I.2 HK.I r0 (by omega)).mono ?_;rintro e w1 ⟨r2,rfl,q0,q1,q2,hb1⟩;have fQ:Hid (B_ w.heap.size w w1∧(0≤r2→(x.Ma.length≤1048576∧ ∀ s∈x.Ma,s.size≤1048576)∧r2+(x.Ma.length:Nat)≤r)):=⟨HA.I.2.2.trans (hb1.mono HA.I.2.2.size),q2⟩
   clear hb1 q2 c0 c1 c2;exact X_
  ·exact J_
theorem Cq (x:au) (w:w_) (hl:x.Ma.length≤1048576) (hc:bT.ep w x.ak x.Ma):
  k_ J3 65 #[a_ #[i_ j_ x.id,i_ j_ x.max,s_ x.ak x.Ma.length x.aq]] w fun e w'=> ∃ a c,e=r_ (a_ (bQ (aC.set x a c)))∧aC.cO w' (w.heap.size+1) (aC.set x a c)∧B_ w.heap.size w w':=by
 have HB:Hid (B_ w.heap.size w (((w.alloc (c_ #[i_ j_ x.id,i_ j_ x.max,s_ x.ak x.Ma.length x.aq] 93)).alloc (c_ #[i_ j_ 0,i_ j_ 0,s_ n_ 0 0] 114)).alloc (c_ #[i_ j_ x.id,i_ j_ x.max,s_ n_ 0 0] 114))):=fg _ _ _ _;have HC:Hid (bT.ep (((w.alloc (c_ #[i_ j_ x.id,i_ j_ x.max,s_ x.ak x.Ma.length x.aq] 93)).alloc (c_ #[i_ j_ 0,i_ j_ 0,s_ n_ 0 0] 114)).alloc (c_ #[i_ j_ x.id,i_ j_ x.max,s_ n_ 0 0] 114)) x.ak x.Ma∧x.Ma.length≤1048576):=⟨hc.below HB.I,hl⟩
 have HX:Hid ((((w.alloc (c_ #[i_ j_ x.id,i_ j_ x.max,s_ x.ak x.Ma.length x.aq] 93)).alloc (c_ #[i_ j_ 0,i_ j_ 0,s_ n_ 0 0] 114)).alloc (c_ #[i_ j_ x.id,i_ j_ x.max,s_ n_ 0 0] 114)).heap[w.heap.size]? =o_ (c_ #[i_ j_ x.id,i_ j_ x.max,s_ x.ak x.Ma.length x.aq] 93)∧(((w.alloc (c_ #[i_ j_ x.id,i_ j_ x.max,s_ x.ak x.Ma.length x.aq] 93)).alloc (c_ #[i_ j_ 0,i_ j_ 0,s_ n_ 0 0] 114)).alloc (c_ #[i_ j_ x.id,i_ j_ x.max,s_ n_ 0 0] 114)).heap[w.heap.size+1]? =o_ (c_ #[i_ j_ 0,i_ j_ 0,s_ n_ 0 0] 114)∧(((w.alloc (c_ #[i_ j_ x.id,i_ j_ x.max,s_ x.ak x.Ma.length x.aq] 93)).alloc (c_ #[i_ j_ 0,i_ j_ 0,s_ n_ 0 0] 114)).alloc (c_ #[i_ j_ x.id,i_ j_ x.max,s_ n_ 0 0] 114)).heap[w.heap.size+1+1]? =o_ (c_ #[i_ j_ x.id,i_ j_ x.max,s_ n_ 0 0] 114)∧(((w.alloc (c_ #[i_ j_ x.id,i_ j_ x.max,s_ x.ak x.Ma.length x.aq] 93)).alloc (c_ #[i_ j_ 0,i_ j_ 0,s_ n_ 0 0] 114)).alloc (c_ #[i_ j_ x.id,i_ j_ x.max,s_ n_ 0 0] 114)).heap.size=w.heap.size+1+1+1):=dR _ _ _ _;clear hl hc
 go_enter func65,ntmps65
 go_wp2_with fail;generalize ((w.alloc (c_ #[i_ j_ x.id,i_ j_ x.max,s_ x.ak x.Ma.length x.aq] 93)).alloc (c_ #[i_ j_ 0,i_ j_ 0,s_ n_ 0 0] 114)).alloc (c_ #[i_ j_ x.id,i_ j_ x.max,s_ n_ 0 0] 114)=W at *;refine (zV x.ak x.Ma x.aq W HC.I.2 HC.I.1).mono ?_;rintro e w1 ⟨rfl,hown,hb1⟩;have HM:Hid (aC.cO w1 W.heap.size (aC.set x (o_ ⟨W.heap.size,0,n_⟩) x.Ma.length)∧B_ w.heap.size w w1):=⟨gd.rJ (N:=aC) hown,HB.I.trans (hb1.mono HB.I.size)⟩
 have y0:w1.heap[w.heap.size]? =o_ (c_ #[i_ j_ x.id,i_ j_ x.max,s_ x.ak x.Ma.length x.aq] 93):=(hb1.block _ Zc3).trans HX.I.1;have y1:w1.heap[w.heap.size+1]? =o_ (c_ #[i_ j_ 0,i_ j_ 0,s_ n_ 0 0] 114):=(hb1.block _ Zc3).trans HX.I.2.1;have y2:w1.heap[w.heap.size+1+1]? =o_ (c_ #[i_ j_ x.id,i_ j_ x.max,s_ n_ 0 0] 114):=(hb1.block _ Zc3).trans HX.I.2.2.1;have t0:w1.cell? ⟨w.heap.size+1+1,0,n_⟩=o_ (i_ j_ x.id):=by simp [World.cell?,y2]
 have u0:w1.frozen? ⟨w.heap.size+1+1,0,n_⟩=false:=by simp [World.frozen?,y2]
 have o0:w1.cell? ⟨w.heap.size+1,0,n_⟩=o_ (i_ j_ 0):=by simp [World.cell?,y1]
 have p0:w1.frozen? ⟨w.heap.size+1,0,n_⟩=false:=by simp [World.frozen?,y1]
 have t1:w1.cell? ⟨w.heap.size+1+1,1,n_⟩=o_ (i_ j_ x.max):=by simp [World.cell?,y2]
 have u1:w1.frozen? ⟨w.heap.size+1+1,1,n_⟩=false:=by simp [World.frozen?,y2]
 have o1:w1.cell? ⟨w.heap.size+1,1,n_⟩=o_ (i_ j_ 0):=by simp [World.cell?,y1]
 have p1:w1.frozen? ⟨w.heap.size+1,1,n_⟩=false:=by simp [World.frozen?,y1]
 have t2:w1.cell? ⟨w.heap.size+1+1,2,n_⟩=o_ (s_ n_ 0 0):=by simp [World.cell?,y2]
 have u2:w1.frozen? ⟨w.heap.size+1+1,2,n_⟩=false:=by simp [World.frozen?,y2]
 have o2:w1.cell? ⟨w.heap.size+1,2,n_⟩=o_ (s_ n_ 0 0):=by simp [World.cell?,y1]
 have p2:w1.frozen? ⟨w.heap.size+1,2,n_⟩=false:=by simp [World.frozen?,y1]
 clear y0 y1 y2 hb1 hown
 dsimp only
 go_wp2;refine KT (v:=a_ #[i_ j_ x.id,i_ j_ x.max,s_ (o_ ⟨W.heap.size,0,n_⟩) x.Ma.length x.Ma.length]) (by simp [results,results65,go_sem, *]) rfl ?_;have hX:=HX.I.2.2.2;have h7:B_ w.heap.size w (bn (bn w1 (w.heap.size+1+1) 2 [s_ (o_ ⟨W.heap.size,0,n_⟩) x.Ma.length x.Ma.length]) (w.heap.size+1) 0 [i_ j_ x.id,i_ j_ x.max,s_ (o_ ⟨W.heap.size,0,n_⟩) x.Ma.length x.Ma.length]):=eU _ (by omega) (eU _ (by omega) HM.I.2);have h8:aC.cO (bn (bn w1 (w.heap.size+1+1) 2 [s_ (o_ ⟨W.heap.size,0,n_⟩) x.Ma.length x.Ma.length]) (w.heap.size+1) 0 [i_ j_ x.id,i_ j_ x.max,s_ (o_ ⟨W.heap.size,0,n_⟩) x.Ma.length x.Ma.length]) (w.heap.size+1) (aC.set x (o_ ⟨W.heap.size,0,n_⟩) x.Ma.length):=(HM.I.1.low (by omega)).same fun g hg=>by
  have:=(HM.I.1.lt hg).1
  exact (de _ (by omega)).trans (de _ (by omega))
 simp only [bn,Nat.reduceAdd,Li] at h7 h8;exact ⟨_,_,rfl,h8,h7⟩
theorem CG:(Tryz.prog.info? 114).map (fun i=>(i.zero,i.size,decide (i.bytes≤1000)))=o_ (o_ (a_ #[i_ j_ 0,i_ j_ 0,s_ n_ 0 0]),3,true):=by kernel_rfl
theorem De (n:Nat) (hn:n≤1048576) (w:w_):
  (Instr.makeSlice 35 (i_ j_ (n:Int)) (i_ j_ (n:Int))).run J3 w= .ok (s_ (o_ ⟨w.heap.size,0,n_⟩) n n) (w.alloc (c_ (madeCells #[i_ j_ 0,i_ j_ 0,s_ n_ 0 0] (n * 3)) 114)):=by
 obtain ⟨i,hi,e⟩:=Kw.1 CG;simp only [Kx,decide_eq_true_eq] at e;obtain ⟨e1,e2,e3⟩:=e;have hby:n * i.bytes≤1048576 * 1000:=acA hn e3
 have:=run_make (P:=J3) w 35 114 i _ underlying35 hi e1 j_ j_ n n (by omega) (by omega) ZcX (by omega)
 exact ZaU
theorem Br (a:Option d_) (l:List au) (cap:Nat) (w:w_) (hl:l.length≤1048576) (hk: ∀ x∈l,x.Ma.length≤1048576) (hc:bm.ep w a l):
  k_ J3 28 #[s_ a l.length cap] w fun e w'=>e=r_ (s_ (o_ ⟨w.heap.size,0,n_⟩) l.length l.length)∧ ∃ I,sd aC bm w w' l.length l I:=by
 have hmk:=De l.length hl;have HC:Hid (bm.ep w a l):=hc;have HKL:Hid (∀ x∈l,x.Ma.length≤1048576):=hk;clear hk;have HF:Hid (gb bm 114 w (w.alloc (c_ (madeCells #[i_ j_ 0,i_ j_ 0,s_ n_ 0 0] (l.length * 3)) 114)) l.length []):=gb.start Zdi;clear hc
 go_enter func28,ntmps28
 go_wp2_with fail
 go_loopw [4] (fun i wr=> ∃ k:Nat,k≤l.length∧i=i_ j_ k∧ ∃ I,Hid (iV aC bm w wr l I k)) (fun i _=>l.length - (intOf i).toNat)
 case atStart=>exact ⟨0,Ky _,rfl,[],iV.start HF.I⟩
 case round=>
  clear hmk HF;obtain ⟨k,hk,rfl,I,HR⟩:=hrel;by_cases hlt:k < l.length
  ·have i0:(0:Int)≤(k:Int):=by omega
   have i1:(k:Int) < (l.length:Int):=by omega
   obtain ⟨x,hx⟩: ∃ x,l[k]? =o_ x:=⟨_,Kz hlt⟩
   obtain ⟨b,off,rfl,hat⟩:=(HC.I.below HR.I.fill.cd).at hx;have c0:wr.cell? ⟨b,off+k * 3,n_⟩=o_ (i_ j_ x.id):=hat 0 _ rfl;have c1:wr.cell? ⟨b,off+k * 3+1,n_⟩=o_ (i_ j_ x.max):=hat 1 _ rfl;have c2:wr.cell? ⟨b,off+k * 3+2,n_⟩=o_ (s_ x.ak x.Ma.length x.aq):=hat 2 _ rfl;have HX:Hid (l[k]? =o_ x):=hx;have HK:Hid (bT.ep wr x.ak x.Ma∧x.Ma.length≤1048576):=⟨⟨((HC.I.below HR.I.fill.cd).bt hx (r:=(x.ak,bT.flat x.Ma)) ZdP),fun y _ r hr=>by simp [bT] at hr⟩,HKL.I x (KA hx)⟩
   have hfl:=HR.I.fill.lt;clear hx hat;go_wp2_with fail;refine (Cq x wr HK.I.2 HK.I.1).mono ?_;rintro e w1 ⟨a1,DJ,rfl,la,hb1⟩;have pG:Hid (iV aC bm w w1 l I k):=HR.I.below hb1;have fQ:Hid (wr.heap.size≤w1.heap.size):=hb1.size;obtain ⟨⟨u,hu⟩,hf⟩:=pG.I.fill.at;have d0:=hu (k * 3) ZdF;have f0:=hf (k * 3);have d1:=hu (k * 3+1) ZdB;have f1:=hf (k * 3+1);have d2:=hu (k * 3+2) ZdA;have f2:=hf (k * 3+2);have h5:=pG.I.more hlt HX.I (la.low (by have:=hfl; omega)) (fun g hg=>by have:=(la.lt hg).1; omega) HR.I;rw [show bm.vals (aC.set x a1 DJ)= [i_ j_ x.id,i_ j_ x.max,s_ a1 x.Ma.length DJ] from rfl,show bm.n=3 from rfl] at h5;simp only [bn,adV,Nat.reduceAdd] at h5;have HS:Hid (iV aC bm w (((w1.setCell ⟨w.heap.size,k * 3,n_⟩ (i_ j_ x.id)).setCell ⟨w.heap.size,k * 3+1,n_⟩ (i_ j_ x.max)).setCell ⟨w.heap.size,k * 3+2,n_⟩ (s_ a1 x.Ma.length DJ)) l (I ++ [aC.set x a1 DJ]) (k+1)):=h5;clear h5;unfold bQ;clear hu hf hb1 HR pG la c0 c1 c2;exact ZbG
  ·exact Zac
theorem Ds (x y:au) (w:w_) (hp:y.toci=x.toci) (hl:x.Ma.length≤1048576) (hx:Row w x.ak (bT.flat x.Ma)) (hy:Row w y.ak (bT.flat y.Ma)):
  k_ J3 71 #[a_ #[i_ j_ x.id,i_ j_ x.max,s_ x.ak x.Ma.length x.aq],a_ #[i_ j_ y.id,i_ j_ y.max,s_ y.ak y.Ma.length y.aq]] w fun e w'=>e=r_ (b_ true)∧B_ w.heap.size w w':=by
 obtain ⟨p,xa,xc⟩:=x;obtain ⟨p',ya,yc⟩:=y;simp only at hp;subst hp;obtain ⟨v0,v1,v2⟩:=p';simp only at hl hx hy;have HB:Hid (B_ w.heap.size w ((w.alloc (c_ #[i_ j_ v0,i_ j_ v1,s_ xa v2.length xc] 114)).alloc (c_ #[i_ j_ v0,i_ j_ v1,s_ ya v2.length yc] 114))):=dT _ _ _;have HR:Hid (Row ((w.alloc (c_ #[i_ j_ v0,i_ j_ v1,s_ xa v2.length xc] 114)).alloc (c_ #[i_ j_ v0,i_ j_ v1,s_ ya v2.length yc] 114)) xa (bT.flat v2)∧Row ((w.alloc (c_ #[i_ j_ v0,i_ j_ v1,s_ xa v2.length xc] 114)).alloc (c_ #[i_ j_ v0,i_ j_ v1,s_ ya v2.length yc] 114)) ya (bT.flat v2)∧v2.length≤1048576):=⟨hx.below HB.I,hy.below HB.I,hl⟩
 have HX:Hid (((w.alloc (c_ #[i_ j_ v0,i_ j_ v1,s_ xa v2.length xc] 114)).alloc (c_ #[i_ j_ v0,i_ j_ v1,s_ ya v2.length yc] 114)).heap[w.heap.size]? =o_ (c_ #[i_ j_ v0,i_ j_ v1,s_ xa v2.length xc] 114)∧((w.alloc (c_ #[i_ j_ v0,i_ j_ v1,s_ xa v2.length xc] 114)).alloc (c_ #[i_ j_ v0,i_ j_ v1,s_ ya v2.length yc] 114)).heap[w.heap.size+1]? =o_ (c_ #[i_ j_ v0,i_ j_ v1,s_ ya v2.length yc] 114)):=cZ _ _ _;clear hx hy hl
 go_enter func71,ntmps71
 go_wp2_with fail;generalize (w.alloc (c_ #[i_ j_ v0,i_ j_ v1,s_ xa v2.length xc] 114)).alloc (c_ #[i_ j_ v0,i_ j_ v1,s_ ya v2.length yc] 114)=W at *;refine (Be xa ya v2 xc yc W HR.I.2.2 ⟨HR.I.1,fun _ _ r hr=>by simp [bT] at hr⟩ ⟨HR.I.2.1,fun _ _ r hr=>by simp [bT] at hr⟩).mono ?_;exact Zap
def rR (w:w_) (a a':Option d_) (l l':List au) (x y:au) (g g' k:Nat) (w':w_):Prop:=((w'.cell? ⟨g,k * 3,n_⟩=o_ (i_ j_ x.id)∧w'.cell? ⟨g,k * 3+1,n_⟩=o_ (i_ j_ x.max)∧w'.cell? ⟨g,k * 3+2,n_⟩=o_ (s_ x.ak x.Ma.length x.aq))∧(w'.cell? ⟨g',k * 3,n_⟩=o_ (i_ j_ y.id)∧w'.cell? ⟨g',k * 3+1,n_⟩=o_ (i_ j_ y.max)∧w'.cell? ⟨g',k * 3+2,n_⟩=o_ (s_ y.ak y.Ma.length y.aq)))∧Hid (bm.bU w' a l∧bm.bU w' a' l'∧B_ w.heap.size w w')
theorem nS {w w':w_} {a a':Option d_} {l l':List au} {x y:au} {g g' k:Nat} (ha:a=o_ ⟨g,0,n_⟩) (ha':a'=o_ ⟨g',0,n_⟩) (hx:l[k]? =o_ x) (hy:l'[k]? =o_ y) (h:bm.bU w' a l∧bm.bU w' a' l'∧B_ w.heap.size w w'):rR w a a' l l' x y g g' k w':=by
 obtain ⟨g1,e1,h1⟩:=h.1.at hx;obtain ⟨g2,e2,h2⟩:=h.2.1.at hy;exact Zai
theorem AK (a a':Option d_) (l l':List au) (cap cap':Nat) (w:w_) (hl:l.length≤1048576) (hk: ∀ x∈l,x.Ma.length≤1048576) (hp:l'.map (·.toci)=l.map (·.toci)) (h:bm.bU w a l) (h':bm.bU w a' l'):
  k_ J3 34 #[s_ a l.length cap,s_ a' l.length cap'] w fun e w'=>e=r_ (b_ true)∧B_ w.heap.size w w':=by
 have HL:Hid (bm.bU w a l∧bm.bU w a' l'∧(∀ x∈l,x.Ma.length≤1048576)∧l'.map (·.toci)=l.map (·.toci)):=⟨h,h',hk,hp⟩
 clear h h' hk hp
 go_enter func34,ntmps34
 go_wp2_with fail
 go_loopw [5] (fun i wr=> ∃ k:Nat,k≤l.length∧i=i_ j_ k∧Hid (B_ w.heap.size w wr)) (fun i _=>l.length - (intOf i).toNat)
 case atStart=>exact ⟨0,Ky _,rfl,Kp _ _⟩
 case round=>
  obtain ⟨k,hk,rfl,HB⟩:=hrel;by_cases hlt:k < l.length
  ·have i0:(0:Int)≤(k:Int):=by omega
   have i1:(k:Int) < (l.length:Int):=by omega
   obtain ⟨x,hx⟩: ∃ x,l[k]? =o_ x:=⟨_,Kz hlt⟩
   obtain ⟨g,ha,-⟩:=HL.I.1.at hx;obtain ⟨y,hy,hpy⟩:=uH HL.I.2.2.2 hx;obtain ⟨g',ha',-⟩:=HL.I.2.1.at hy;have HX:Hid (a=o_ ⟨g,0,n_⟩∧a'=o_ ⟨g',0,n_⟩∧l[k]? =o_ x∧l'[k]? =o_ y∧y.toci=x.toci∧x.Ma.length≤1048576):=⟨ha,ha',hx,hy,hpy,HL.I.2.2.1 x (KA hx)⟩
   have HS:Hid (rR w a a' l l' x y g g' k wr):=nS ha ha' hx hy ⟨HL.I.1.below HB.I,HL.I.2.1.below HB.I,HB.I⟩;clear hx hy hpy;rw [ha,ha'];clear ha ha';go_wp2_with fail;refine aT (rR w a a' l l' x y g g' k) ZcR (nS HX.I.1 HX.I.2.1 HX.I.2.2.1 HX.I.2.2.2.1 ⟨HS.I.2.I.1.below (Kp _ _).drew,HS.I.2.I.2.1.below (Kp _ _).drew,HS.I.2.I.2.2.drew⟩) ?_
   iterate 8 (refine PI ?_ (hy:=fun w0 hS0=>by obtain ⟨⟨⟨q0,q1,q2⟩,⟨r0,r1,r2⟩⟩,hH⟩:=hS0; go_simp; try with_reducible rfl))
   refine cl (b_ true) 71 #[a_ #[i_ j_ x.id,i_ j_ x.max,s_ x.ak x.Ma.length x.aq],a_ #[i_ j_ y.id,i_ j_ y.max,s_ y.ak y.Ma.length y.aq]] ?_ ?_ ?_
   ·exact Zcy
   ·intro w0 hS0
    refine (Ds x y w0 HX.I.2.2.2.2.1 HX.I.2.2.2.2.2 (hS0.2.I.1.bt HX.I.2.2.1 (r:=(x.ak,bT.flat x.Ma)) ZdP) (hS0.2.I.2.1.bt HX.I.2.2.2.1 (r:=(y.ak,bT.flat y.Ma)) ZdP)).mono ?_;rintro e w2 ⟨rfl,hb2⟩;exact ⟨rfl,nS HX.I.1 HX.I.2.1 HX.I.2.2.1 HX.I.2.2.2.1 ⟨hS0.2.I.1.below hb2,hS0.2.I.2.1.below hb2,hS0.2.I.2.2.trans (hb2.mono hS0.2.I.2.2.size)⟩⟩
   exact Zcp
  ·exact BT
theorem F8 (x:aM) (left:Int) (w:w_) (hb:(x.Ma.length≤maxLen∧ ∀ s∈x.Ma,s.size≤maxLen)) (hc:bT.ep w x.ak x.Ma) (h0:0≤left) (h1:left≤1048576):
  k_ J3 55 #[a_ #[i_ j_ x.id,b_ x.I,b_ x.Mf,i_ j_ x.max,s_ x.ak x.Ma.length x.aq],i_ j_ left] w fun e w'=>jZ w left (x.Ma.length) ((x.Ma.length≤1048576∧ ∀ s∈x.Ma,s.size≤1048576)) e w':=by
 have HB:Hid ((x.Ma.length≤maxLen∧ ∀ s∈x.Ma,s.size≤maxLen)):=hb;have HC:Hid (bT.ep (w.alloc (c_ #[i_ j_ x.id,b_ x.I,b_ x.Mf,i_ j_ x.max,s_ x.ak x.Ma.length x.aq] 96)) x.ak x.Ma):=hc.below ((Kp _ _).alloc (Ki _) _);clear hc;have HW:Hid (B_ w.heap.size w (w.alloc (c_ #[i_ j_ x.id,b_ x.I,b_ x.Mf,i_ j_ x.max,s_ x.ak x.Ma.length x.aq] 96))):=(Kp _ _).alloc (Ki _) _;clear hb
 go_enter func55,ntmps55
 have HX:Hid ((w.alloc (c_ #[i_ j_ x.id,b_ x.I,b_ x.Mf,i_ j_ x.max,s_ x.ak x.Ma.length x.aq] 96)).heap[w.heap.size]? =o_ (c_ #[i_ j_ x.id,b_ x.I,b_ x.Mf,i_ j_ x.max,s_ x.ak x.Ma.length x.aq] 96)):=Kj _ _;go_wp2_with fail;generalize w.alloc (c_ #[i_ j_ x.id,b_ x.I,b_ x.Mf,i_ j_ x.max,s_ x.ak x.Ma.length x.aq] 96)=W at *;refine (AX x.ak x.Ma x.aq left W HB.I.1 HC.I HB.I.2 h0 h1).mono ?_;rintro e w1 ⟨r1,rfl,q0,q1,q2,hb1⟩;have fQ:Hid (B_ w.heap.size w w1):=HW.I.trans (hb1.mono HW.I.size);have xi:Hid (w1.heap[w.heap.size]? =o_ (c_ #[i_ j_ x.id,b_ x.I,b_ x.Mf,i_ j_ x.max,s_ x.ak x.Ma.length x.aq] 96)):=(hb1.block _ (J2.1 HX.I).1).trans HX.I;exact Zal
theorem EC (a:Option d_) (l:List aM) (cap:Nat) (left:Int) (w:w_) (hl:l.length≤maxLen) (hc:bX.ep w a l) (hs: ∀ x∈l,(x.Ma.length≤maxLen∧ ∀ s∈x.Ma,s.size≤maxLen)) (h0:0≤left) (h1:left≤1048576):
  k_ J3 19 #[s_ a l.length cap,i_ j_ left] w fun e w'=>jZ w left (l.length+g9 (fun x:aM=>x.Ma.length) l) (l.length≤1048576∧ ∀ x∈l,(x.Ma.length≤1048576∧ ∀ s∈x.Ma,s.size≤1048576)) e w':=by
 have hl':=hl;unfold maxLen at hl';by_cases hn:left - (l.length:Int) < 0
 ·go_enter func19,ntmps19
  exact ZaK
 have HC:Hid (bX.ep w a l∧ ∀ x∈l,(x.Ma.length≤maxLen∧ ∀ s∈x.Ma,s.size≤maxLen)):=⟨hc,hs⟩
 clear hc hs hl
 go_enter func19,ntmps19
 go_wp2_with fail
 go_loopw [1,5] (fun q i wr=> ∃ (k:Nat) (r:Int),k≤l.length∧i=i_ j_ k∧q=i_ j_ r∧0≤r∧r≤left - (l.length:Int)∧Hid ((∀ x∈l.take k,(x.Ma.length≤1048576∧ ∀ s∈x.Ma,s.size≤1048576))∧r+(g9 (fun x:aM=>x.Ma.length) (l.take k):Nat)≤left - (l.length:Int)∧B_ w.heap.size w wr)) (fun _ i _=>l.length - (intOf i).toNat)
 case atStart=>exact ⟨0,left - (l.length:Int),Ky _,rfl,rfl,by omega,by omega,⟨by simp,by simp [g9],Kp _ _⟩⟩
 case round=>
  obtain ⟨k,r,hk,rfl,rfl,r0,r1,HA⟩:=hrel;by_cases hlt:k < l.length
  ·have i0:(0:Int)≤(k:Int):=by omega
   have i1:(k:Int) < (l.length:Int):=by omega
   obtain ⟨x,hx⟩: ∃ x,l[k]? =o_ x:=⟨_,Kz hlt⟩
   have hmem:=KA hx;obtain ⟨b,off,rfl,hat⟩:=(HC.I.1.below HA.I.2.2).at hx;have c0:wr.cell? ⟨b,off+k * 5,n_⟩=o_ (i_ j_ x.id):=hat 0 _ rfl;have c1:wr.cell? ⟨b,off+k * 5+1,n_⟩=o_ (b_ x.I):=hat 1 _ rfl;have c2:wr.cell? ⟨b,off+k * 5+2,n_⟩=o_ (b_ x.Mf):=hat 2 _ rfl;have c3:wr.cell? ⟨b,off+k * 5+3,n_⟩=o_ (i_ j_ x.max):=hat 3 _ rfl;have c4:wr.cell? ⟨b,off+k * 5+4,n_⟩=o_ (s_ x.ak x.Ma.length x.aq):=hat 4 _ rfl;have HX:Hid (l[k]? =o_ x∧(x.Ma.length≤maxLen∧ ∀ s∈x.Ma,s.size≤maxLen)):=⟨hx,HC.I.2 x hmem⟩
   have HK:Hid (bT.ep wr x.ak x.Ma):=⟨((HC.I.1.below HA.I.2.2).bt hx (r:=(x.ak,bT.flat x.Ma)) ZdR),fun y _ r hr=>by simp [bT] at hr⟩
   clear hx hmem hat;go_wp2_with fail;refine (F8 x r wr HX.I.2 HK.I r0 (by omega)).mono ?_;rintro e w1 ⟨r2,rfl,q0,q1,q2,hb1⟩;have fQ:Hid (B_ w.heap.size w w1∧(0≤r2→(x.Ma.length≤1048576∧ ∀ s∈x.Ma,s.size≤1048576)∧r2+(x.Ma.length:Nat)≤r)):=⟨HA.I.2.2.trans (hb1.mono HA.I.2.2.size),q2⟩
   clear hb1 q2 c0 c1 c2 c3 c4;exact X_
  ·exact J_
theorem G8 (x:aM) (w:w_) (hl:x.Ma.length≤1048576) (hc:bT.ep w x.ak x.Ma):
  k_ J3 66 #[a_ #[i_ j_ x.id,b_ x.I,b_ x.Mf,i_ j_ x.max,s_ x.ak x.Ma.length x.aq]] w fun e w'=> ∃ a c,e=r_ (a_ (cW (aU.set x a c)))∧aU.cO w' (w.heap.size+1) (aU.set x a c)∧B_ w.heap.size w w':=by
 have HB:Hid (B_ w.heap.size w (((w.alloc (c_ #[i_ j_ x.id,b_ x.I,b_ x.Mf,i_ j_ x.max,s_ x.ak x.Ma.length x.aq] 96)).alloc (c_ #[i_ j_ 0,b_ false,b_ false,i_ j_ 0,s_ n_ 0 0] 116)).alloc (c_ #[i_ j_ x.id,b_ x.I,b_ x.Mf,i_ j_ x.max,s_ n_ 0 0] 116))):=fg _ _ _ _;have HC:Hid (bT.ep (((w.alloc (c_ #[i_ j_ x.id,b_ x.I,b_ x.Mf,i_ j_ x.max,s_ x.ak x.Ma.length x.aq] 96)).alloc (c_ #[i_ j_ 0,b_ false,b_ false,i_ j_ 0,s_ n_ 0 0] 116)).alloc (c_ #[i_ j_ x.id,b_ x.I,b_ x.Mf,i_ j_ x.max,s_ n_ 0 0] 116)) x.ak x.Ma∧x.Ma.length≤1048576):=⟨hc.below HB.I,hl⟩
 have HX:Hid ((((w.alloc (c_ #[i_ j_ x.id,b_ x.I,b_ x.Mf,i_ j_ x.max,s_ x.ak x.Ma.length x.aq] 96)).alloc (c_ #[i_ j_ 0,b_ false,b_ false,i_ j_ 0,s_ n_ 0 0] 116)).alloc (c_ #[i_ j_ x.id,b_ x.I,b_ x.Mf,i_ j_ x.max,s_ n_ 0 0] 116)).heap[w.heap.size]? =o_ (c_ #[i_ j_ x.id,b_ x.I,b_ x.Mf,i_ j_ x.max,s_ x.ak x.Ma.length x.aq] 96)∧(((w.alloc (c_ #[i_ j_ x.id,b_ x.I,b_ x.Mf,i_ j_ x.max,s_ x.ak x.Ma.length x.aq] 96)).alloc (c_ #[i_ j_ 0,b_ false,b_ false,i_ j_ 0,s_ n_ 0 0] 116)).alloc (c_ #[i_ j_ x.id,b_ x.I,b_ x.Mf,i_ j_ x.max,s_ n_ 0 0] 116)).heap[w.heap.size+1]? =o_ (c_ #[i_ j_ 0,b_ false,b_ false,i_ j_ 0,s_ n_ 0 0] 116)∧(((w.alloc (c_ #[i_ j_ x.id,b_ x.I,b_ x.Mf,i_ j_ x.max,s_ x.ak x.Ma.length x.aq] 96)).alloc (c_ #[i_ j_ 0,b_ false,b_ false,i_ j_ 0,s_ n_ 0 0] 116)).alloc (c_ #[i_ j_ x.id,b_ x.I,b_ x.Mf,i_ j_ x.max,s_ n_ 0 0] 116)).heap[w.heap.size+1+1]? =o_ (c_ #[i_ j_ x.id,b_ x.I,b_ x.Mf,i_ j_ x.max,s_ n_ 0 0] 116)∧(((w.alloc (c_ #[i_ j_ x.id,b_ x.I,b_ x.Mf,i_ j_ x.max,s_ x.ak x.Ma.length x.aq] 96)).alloc (c_ #[i_ j_ 0,b_ false,b_ false,i_ j_ 0,s_ n_ 0 0] 116)).alloc (c_ #[i_ j_ x.id,b_ x.I,b_ x.Mf,i_ j_ x.max,s_ n_ 0 0] 116)).heap.size=w.heap.size+1+1+1):=dR _ _ _ _;clear hl hc
 go_enter func66,ntmps66
 go_wp2_with fail;generalize ((w.alloc (c_ #[i_ j_ x.id,b_ x.I,b_ x.Mf,i_ j_ x.max,s_ x.ak x.Ma.length x.aq] 96)).alloc (c_ #[i_ j_ 0,b_ false,b_ false,i_ j_ 0,s_ n_ 0 0] 116)).alloc (c_ #[i_ j_ x.id,b_ x.I,b_ x.Mf,i_ j_ x.max,s_ n_ 0 0] 116)=W at *;refine (zV x.ak x.Ma x.aq W HC.I.2 HC.I.1).mono ?_;rintro e w1 ⟨rfl,hown,hb1⟩;have HM:Hid (aU.cO w1 W.heap.size (aU.set x (o_ ⟨W.heap.size,0,n_⟩) x.Ma.length)∧B_ w.heap.size w w1):=⟨gd.rJ (N:=aU) hown,HB.I.trans (hb1.mono HB.I.size)⟩
 have y0:w1.heap[w.heap.size]? =o_ (c_ #[i_ j_ x.id,b_ x.I,b_ x.Mf,i_ j_ x.max,s_ x.ak x.Ma.length x.aq] 96):=(hb1.block _ Zc3).trans HX.I.1;have y1:w1.heap[w.heap.size+1]? =o_ (c_ #[i_ j_ 0,b_ false,b_ false,i_ j_ 0,s_ n_ 0 0] 116):=(hb1.block _ Zc3).trans HX.I.2.1;have y2:w1.heap[w.heap.size+1+1]? =o_ (c_ #[i_ j_ x.id,b_ x.I,b_ x.Mf,i_ j_ x.max,s_ n_ 0 0] 116):=(hb1.block _ Zc3).trans HX.I.2.2.1;have t0:w1.cell? ⟨w.heap.size+1+1,0,n_⟩=o_ (i_ j_ x.id):=by simp [World.cell?,y2]
 have u0:w1.frozen? ⟨w.heap.size+1+1,0,n_⟩=false:=by simp [World.frozen?,y2]
 have o0:w1.cell? ⟨w.heap.size+1,0,n_⟩=o_ (i_ j_ 0):=by simp [World.cell?,y1]
 have p0:w1.frozen? ⟨w.heap.size+1,0,n_⟩=false:=by simp [World.frozen?,y1]
 have t1:w1.cell? ⟨w.heap.size+1+1,1,n_⟩=o_ (b_ x.I):=by simp [World.cell?,y2]
 have u1:w1.frozen? ⟨w.heap.size+1+1,1,n_⟩=false:=by simp [World.frozen?,y2]
 have o1:w1.cell? ⟨w.heap.size+1,1,n_⟩=o_ (b_ false):=by simp [World.cell?,y1]
 have p1:w1.frozen? ⟨w.heap.size+1,1,n_⟩=false:=by simp [World.frozen?,y1]
 have t2:w1.cell? ⟨w.heap.size+1+1,2,n_⟩=o_ (b_ x.Mf):=by simp [World.cell?,y2]
 have u2:w1.frozen? ⟨w.heap.size+1+1,2,n_⟩=false:=by simp [World.frozen?,y2]
 have o2:w1.cell? ⟨w.heap.size+1,2,n_⟩=o_ (b_ false):=by simp [World.cell?,y1]
 have p2:w1.frozen? ⟨w.heap.size+1,2,n_⟩=false:=by simp [World.frozen?,y1]
 have t3:w1.cell? ⟨w.heap.size+1+1,3,n_⟩=o_ (i_ j_ x.max):=by simp [World.cell?,y2]
 have u3:w1.frozen? ⟨w.heap.size+1+1,3,n_⟩=false:=by simp [World.frozen?,y2]
 have o3:w1.cell? ⟨w.heap.size+1,3,n_⟩=o_ (i_ j_ 0):=by simp [World.cell?,y1]
 have p3:w1.frozen? ⟨w.heap.size+1,3,n_⟩=false:=by simp [World.frozen?,y1]
 have t4:w1.cell? ⟨w.heap.size+1+1,4,n_⟩=o_ (s_ n_ 0 0):=by simp [World.cell?,y2]
 have u4:w1.frozen? ⟨w.heap.size+1+1,4,n_⟩=false:=by simp [World.frozen?,y2]
 have o4:w1.cell? ⟨w.heap.size+1,4,n_⟩=o_ (s_ n_ 0 0):=by simp [World.cell?,y1]
 have p4:w1.frozen? ⟨w.heap.size+1,4,n_⟩=false:=by simp [World.frozen?,y1]
 clear y0 y1 y2 hb1 hown
 dsimp only
 go_wp2;refine KT (v:=a_ #[i_ j_ x.id,b_ x.I,b_ x.Mf,i_ j_ x.max,s_ (o_ ⟨W.heap.size,0,n_⟩) x.Ma.length x.Ma.length]) (by simp [results,results66,go_sem, *]) rfl ?_;have hX:=HX.I.2.2.2;have h7:B_ w.heap.size w (bn (bn w1 (w.heap.size+1+1) 4 [s_ (o_ ⟨W.heap.size,0,n_⟩) x.Ma.length x.Ma.length]) (w.heap.size+1) 0 [i_ j_ x.id,b_ x.I,b_ x.Mf,i_ j_ x.max,s_ (o_ ⟨W.heap.size,0,n_⟩) x.Ma.length x.Ma.length]):=eU _ (by omega) (eU _ (by omega) HM.I.2);have h8:aU.cO (bn (bn w1 (w.heap.size+1+1) 4 [s_ (o_ ⟨W.heap.size,0,n_⟩) x.Ma.length x.Ma.length]) (w.heap.size+1) 0 [i_ j_ x.id,b_ x.I,b_ x.Mf,i_ j_ x.max,s_ (o_ ⟨W.heap.size,0,n_⟩) x.Ma.length x.Ma.length]) (w.heap.size+1) (aU.set x (o_ ⟨W.heap.size,0,n_⟩) x.Ma.length):=(HM.I.1.low (by omega)).same fun g hg=>by
  have:=(HM.I.1.lt hg).1
  exact (de _ (by omega)).trans (de _ (by omega))
 simp only [bn,Nat.reduceAdd,Li] at h7 h8;exact ⟨_,_,rfl,h8,h7⟩
theorem Hn:(Tryz.prog.info? 116).map (fun i=>(i.zero,i.size,decide (i.bytes≤1000)))=o_ (o_ (a_ #[i_ j_ 0,b_ false,b_ false,i_ j_ 0,s_ n_ 0 0]),5,true):=by kernel_rfl
theorem F0 (n:Nat) (hn:n≤1048576) (w:w_):
  (Instr.makeSlice 36 (i_ j_ (n:Int)) (i_ j_ (n:Int))).run J3 w= .ok (s_ (o_ ⟨w.heap.size,0,n_⟩) n n) (w.alloc (c_ (madeCells #[i_ j_ 0,b_ false,b_ false,i_ j_ 0,s_ n_ 0 0] (n * 5)) 116)):=by
 obtain ⟨i,hi,e⟩:=Kw.1 Hn;simp only [Kx,decide_eq_true_eq] at e;obtain ⟨e1,e2,e3⟩:=e;have hby:n * i.bytes≤1048576 * 1000:=acA hn e3
 have:=run_make (P:=J3) w 36 116 i _ underlying36 hi e1 j_ j_ n n (by omega) (by omega) ZcX (by omega)
 exact ZaU
theorem Fh (a:Option d_) (l:List aM) (cap:Nat) (w:w_) (hl:l.length≤1048576) (hk: ∀ x∈l,x.Ma.length≤1048576) (hc:bX.ep w a l):
  k_ J3 29 #[s_ a l.length cap] w fun e w'=>e=r_ (s_ (o_ ⟨w.heap.size,0,n_⟩) l.length l.length)∧ ∃ I,sd aU bX w w' l.length l I:=by
 have hmk:=F0 l.length hl;have HC:Hid (bX.ep w a l):=hc;have HKL:Hid (∀ x∈l,x.Ma.length≤1048576):=hk;clear hk;have HF:Hid (gb bX 116 w (w.alloc (c_ (madeCells #[i_ j_ 0,b_ false,b_ false,i_ j_ 0,s_ n_ 0 0] (l.length * 5)) 116)) l.length []):=gb.start Zdi;clear hc
 go_enter func29,ntmps29
 go_wp2_with fail
 go_loopw [4] (fun i wr=> ∃ k:Nat,k≤l.length∧i=i_ j_ k∧ ∃ I,Hid (iV aU bX w wr l I k)) (fun i _=>l.length - (intOf i).toNat)
 case atStart=>exact ⟨0,Ky _,rfl,[],iV.start HF.I⟩
 case round=>
  clear hmk HF;obtain ⟨k,hk,rfl,I,HR⟩:=hrel;by_cases hlt:k < l.length
  ·have i0:(0:Int)≤(k:Int):=by omega
   have i1:(k:Int) < (l.length:Int):=by omega
   obtain ⟨x,hx⟩: ∃ x,l[k]? =o_ x:=⟨_,Kz hlt⟩
   obtain ⟨b,off,rfl,hat⟩:=(HC.I.below HR.I.fill.cd).at hx;have c0:wr.cell? ⟨b,off+k * 5,n_⟩=o_ (i_ j_ x.id):=hat 0 _ rfl;have c1:wr.cell? ⟨b,off+k * 5+1,n_⟩=o_ (b_ x.I):=hat 1 _ rfl;have c2:wr.cell? ⟨b,off+k * 5+2,n_⟩=o_ (b_ x.Mf):=hat 2 _ rfl;have c3:wr.cell? ⟨b,off+k * 5+3,n_⟩=o_ (i_ j_ x.max):=hat 3 _ rfl;have c4:wr.cell? ⟨b,off+k * 5+4,n_⟩=o_ (s_ x.ak x.Ma.length x.aq):=hat 4 _ rfl;have HX:Hid (l[k]? =o_ x):=hx;have HK:Hid (bT.ep wr x.ak x.Ma∧x.Ma.length≤1048576):=⟨⟨((HC.I.below HR.I.fill.cd).bt hx (r:=(x.ak,bT.flat x.Ma)) ZdR),fun y _ r hr=>by simp [bT] at hr⟩,HKL.I x (KA hx)⟩
   have hfl:=HR.I.fill.lt;clear hx hat;go_wp2_with fail;refine (G8 x wr HK.I.2 HK.I.1).mono ?_;rintro e w1 ⟨a1,DJ,rfl,la,hb1⟩;have pG:Hid (iV aU bX w w1 l I k):=HR.I.below hb1;have fQ:Hid (wr.heap.size≤w1.heap.size):=hb1.size;obtain ⟨⟨u,hu⟩,hf⟩:=pG.I.fill.at;have d0:=hu (k * 5) (by show k * 5 < l.length * 5; omega);have f0:=hf (k * 5);have d1:=hu (k * 5+1) (by show k * 5+1 < l.length * 5; omega);have f1:=hf (k * 5+1);have d2:=hu (k * 5+2) (by show k * 5+2 < l.length * 5; omega);have f2:=hf (k * 5+2);have d3:=hu (k * 5+3) (by show k * 5+3 < l.length * 5; omega);have f3:=hf (k * 5+3);have d4:=hu (k * 5+4) (by show k * 5+4 < l.length * 5; omega);have f4:=hf (k * 5+4);have h5:=pG.I.more hlt HX.I (la.low (by have:=hfl; omega)) (fun g hg=>by have:=(la.lt hg).1; omega) HR.I;rw [show bX.vals (aU.set x a1 DJ)= [i_ j_ x.id,b_ x.I,b_ x.Mf,i_ j_ x.max,s_ a1 x.Ma.length DJ] from rfl,show bX.n=5 from rfl] at h5;simp only [bn,adV,Nat.reduceAdd] at h5;have HS:Hid (iV aU bX w (((((w1.setCell ⟨w.heap.size,k * 5,n_⟩ (i_ j_ x.id)).setCell ⟨w.heap.size,k * 5+1,n_⟩ (b_ x.I)).setCell ⟨w.heap.size,k * 5+2,n_⟩ (b_ x.Mf)).setCell ⟨w.heap.size,k * 5+3,n_⟩ (i_ j_ x.max)).setCell ⟨w.heap.size,k * 5+4,n_⟩ (s_ a1 x.Ma.length DJ)) l (I ++ [aU.set x a1 DJ]) (k+1)):=h5;clear h5;unfold cW;clear hu hf hb1 HR pG la c0 c1 c2 c3 c4;exact ZbG
  ·exact Zac
theorem Gl (x y:aM) (w:w_) (hp:y.todS=x.todS) (hl:x.Ma.length≤1048576) (hx:Row w x.ak (bT.flat x.Ma)) (hy:Row w y.ak (bT.flat y.Ma)):
  k_ J3 72 #[a_ #[i_ j_ x.id,b_ x.I,b_ x.Mf,i_ j_ x.max,s_ x.ak x.Ma.length x.aq],a_ #[i_ j_ y.id,b_ y.I,b_ y.Mf,i_ j_ y.max,s_ y.ak y.Ma.length y.aq]] w fun e w'=>e=r_ (b_ true)∧B_ w.heap.size w w':=by
 obtain ⟨p,xa,xc⟩:=x;obtain ⟨p',ya,yc⟩:=y;simp only at hp;subst hp;obtain ⟨v0,v1,v2,v3,v4⟩:=p';simp only at hl hx hy;have HB:Hid (B_ w.heap.size w ((w.alloc (c_ #[i_ j_ v0,b_ v1,b_ v2,i_ j_ v3,s_ xa v4.length xc] 116)).alloc (c_ #[i_ j_ v0,b_ v1,b_ v2,i_ j_ v3,s_ ya v4.length yc] 116))):=dT _ _ _;have HR:Hid (Row ((w.alloc (c_ #[i_ j_ v0,b_ v1,b_ v2,i_ j_ v3,s_ xa v4.length xc] 116)).alloc (c_ #[i_ j_ v0,b_ v1,b_ v2,i_ j_ v3,s_ ya v4.length yc] 116)) xa (bT.flat v4)∧Row ((w.alloc (c_ #[i_ j_ v0,b_ v1,b_ v2,i_ j_ v3,s_ xa v4.length xc] 116)).alloc (c_ #[i_ j_ v0,b_ v1,b_ v2,i_ j_ v3,s_ ya v4.length yc] 116)) ya (bT.flat v4)∧v4.length≤1048576):=⟨hx.below HB.I,hy.below HB.I,hl⟩
 have HX:Hid (((w.alloc (c_ #[i_ j_ v0,b_ v1,b_ v2,i_ j_ v3,s_ xa v4.length xc] 116)).alloc (c_ #[i_ j_ v0,b_ v1,b_ v2,i_ j_ v3,s_ ya v4.length yc] 116)).heap[w.heap.size]? =o_ (c_ #[i_ j_ v0,b_ v1,b_ v2,i_ j_ v3,s_ xa v4.length xc] 116)∧((w.alloc (c_ #[i_ j_ v0,b_ v1,b_ v2,i_ j_ v3,s_ xa v4.length xc] 116)).alloc (c_ #[i_ j_ v0,b_ v1,b_ v2,i_ j_ v3,s_ ya v4.length yc] 116)).heap[w.heap.size+1]? =o_ (c_ #[i_ j_ v0,b_ v1,b_ v2,i_ j_ v3,s_ ya v4.length yc] 116)):=cZ _ _ _;clear hx hy hl
 go_enter func72,ntmps72
 go_wp2_with fail;generalize (w.alloc (c_ #[i_ j_ v0,b_ v1,b_ v2,i_ j_ v3,s_ xa v4.length xc] 116)).alloc (c_ #[i_ j_ v0,b_ v1,b_ v2,i_ j_ v3,s_ ya v4.length yc] 116)=W at *;refine (Be xa ya v4 xc yc W HR.I.2.2 ⟨HR.I.1,fun _ _ r hr=>by simp [bT] at hr⟩ ⟨HR.I.2.1,fun _ _ r hr=>by simp [bT] at hr⟩).mono ?_;exact Zap
def yi (w:w_) (a a':Option d_) (l l':List aM) (x y:aM) (g g' k:Nat) (w':w_):Prop:=((w'.cell? ⟨g,k * 5,n_⟩=o_ (i_ j_ x.id)∧w'.cell? ⟨g,k * 5+1,n_⟩=o_ (b_ x.I)∧w'.cell? ⟨g,k * 5+2,n_⟩=o_ (b_ x.Mf)∧w'.cell? ⟨g,k * 5+3,n_⟩=o_ (i_ j_ x.max)∧w'.cell? ⟨g,k * 5+4,n_⟩=o_ (s_ x.ak x.Ma.length x.aq))∧(w'.cell? ⟨g',k * 5,n_⟩=o_ (i_ j_ y.id)∧w'.cell? ⟨g',k * 5+1,n_⟩=o_ (b_ y.I)∧w'.cell? ⟨g',k * 5+2,n_⟩=o_ (b_ y.Mf)∧w'.cell? ⟨g',k * 5+3,n_⟩=o_ (i_ j_ y.max)∧w'.cell? ⟨g',k * 5+4,n_⟩=o_ (s_ y.ak y.Ma.length y.aq)))∧Hid (bX.bU w' a l∧bX.bU w' a' l'∧B_ w.heap.size w w')
theorem qs {w w':w_} {a a':Option d_} {l l':List aM} {x y:aM} {g g' k:Nat} (ha:a=o_ ⟨g,0,n_⟩) (ha':a'=o_ ⟨g',0,n_⟩) (hx:l[k]? =o_ x) (hy:l'[k]? =o_ y) (h:bX.bU w' a l∧bX.bU w' a' l'∧B_ w.heap.size w w'):yi w a a' l l' x y g g' k w':=by
 obtain ⟨g1,e1,h1⟩:=h.1.at hx;obtain ⟨g2,e2,h2⟩:=h.2.1.at hy;rw [ha] at e1;rw [ha'] at e2;cases e1;cases e2;exact ⟨⟨⟨h1 0 _ rfl,h1 1 _ rfl,h1 2 _ rfl,h1 3 _ rfl,h1 4 _ rfl⟩,⟨h2 0 _ rfl,h2 1 _ rfl,h2 2 _ rfl,h2 3 _ rfl,h2 4 _ rfl⟩⟩,h⟩
theorem Ef (a a':Option d_) (l l':List aM) (cap cap':Nat) (w:w_) (hl:l.length≤1048576) (hk: ∀ x∈l,x.Ma.length≤1048576) (hp:l'.map (·.todS)=l.map (·.todS)) (h:bX.bU w a l) (h':bX.bU w a' l'):
  k_ J3 35 #[s_ a l.length cap,s_ a' l.length cap'] w fun e w'=>e=r_ (b_ true)∧B_ w.heap.size w w':=by
 have HL:Hid (bX.bU w a l∧bX.bU w a' l'∧(∀ x∈l,x.Ma.length≤1048576)∧l'.map (·.todS)=l.map (·.todS)):=⟨h,h',hk,hp⟩
 clear h h' hk hp
 go_enter func35,ntmps35
 go_wp2_with fail
 go_loopw [5] (fun i wr=> ∃ k:Nat,k≤l.length∧i=i_ j_ k∧Hid (B_ w.heap.size w wr)) (fun i _=>l.length - (intOf i).toNat)
 case atStart=>exact ⟨0,Ky _,rfl,Kp _ _⟩
 case round=>
  obtain ⟨k,hk,rfl,HB⟩:=hrel;by_cases hlt:k < l.length
  ·have i0:(0:Int)≤(k:Int):=by omega
   have i1:(k:Int) < (l.length:Int):=by omega
   obtain ⟨x,hx⟩: ∃ x,l[k]? =o_ x:=⟨_,Kz hlt⟩
   obtain ⟨g,ha,-⟩:=HL.I.1.at hx;obtain ⟨y,hy,hpy⟩:=uH HL.I.2.2.2 hx;obtain ⟨g',ha',-⟩:=HL.I.2.1.at hy;have HX:Hid (a=o_ ⟨g,0,n_⟩∧a'=o_ ⟨g',0,n_⟩∧l[k]? =o_ x∧l'[k]? =o_ y∧y.todS=x.todS∧x.Ma.length≤1048576):=⟨ha,ha',hx,hy,hpy,HL.I.2.2.1 x (KA hx)⟩
   have HS:Hid (yi w a a' l l' x y g g' k wr):=qs ha ha' hx hy ⟨HL.I.1.below HB.I,HL.I.2.1.below HB.I,HB.I⟩;clear hx hy hpy;rw [ha,ha'];clear ha ha';go_wp2_with fail;refine aT (yi w a a' l l' x y g g' k) ZcR (qs HX.I.1 HX.I.2.1 HX.I.2.2.1 HX.I.2.2.2.1 ⟨HS.I.2.I.1.below (Kp _ _).drew,HS.I.2.I.2.1.below (Kp _ _).drew,HS.I.2.I.2.2.drew⟩) ?_
   iterate 8 (refine PI ?_ (hy:=fun w0 hS0=>by obtain ⟨⟨⟨q0,q1,q2,q3,q4⟩,⟨r0,r1,r2,r3,r4⟩⟩,hH⟩:=hS0; go_simp; try with_reducible rfl))
   refine cl (b_ true) 72 #[a_ #[i_ j_ x.id,b_ x.I,b_ x.Mf,i_ j_ x.max,s_ x.ak x.Ma.length x.aq],a_ #[i_ j_ y.id,b_ y.I,b_ y.Mf,i_ j_ y.max,s_ y.ak y.Ma.length y.aq]] ?_ ?_ ?_
   ·intro w0 hS0
    obtain ⟨⟨⟨q0,q1,q2,q3,q4⟩,⟨r0,r1,r2,r3,r4⟩⟩,hH⟩:=hS0
    exact wl
   ·intro w0 hS0
    refine (Gl x y w0 HX.I.2.2.2.2.1 HX.I.2.2.2.2.2 (hS0.2.I.1.bt HX.I.2.2.1 (r:=(x.ak,bT.flat x.Ma)) ZdR) (hS0.2.I.2.1.bt HX.I.2.2.2.1 (r:=(y.ak,bT.flat y.Ma)) ZdR)).mono ?_;rintro e w2 ⟨rfl,hb2⟩;exact ⟨rfl,qs HX.I.1 HX.I.2.1 HX.I.2.2.1 HX.I.2.2.2.1 ⟨hS0.2.I.1.below hb2,hS0.2.I.2.1.below hb2,hS0.2.I.2.2.trans (hb2.mono hS0.2.I.2.2.size)⟩⟩
   simp only [pt,sb,s0,s1]
   (refine PI ?_ (hy:=fun w0 hS0=>by obtain ⟨⟨⟨q0,q1,q2,q3,q4⟩,⟨r0,r1,r2,r3,r4⟩⟩,hH⟩:=hS0; go_simp; try with_reducible rfl))
   exact rg
  ·exact BT
end
section
open Go.RowKit
theorem yS:(Tryz.prog.info? 105).map (fun i=>(i.zero,i.size,i.bytes))=o_ (o_ (a_ #[i_ j_ 0,i_ j_ 0,i_ j_ 0]),3,24):=by kernel_rfl
theorem so:(Tryz.prog.info? 109).map (fun i=>(i.zero,i.size,i.bytes))=o_ (o_ (a_ #[i_ j_ 0,b_ false]),2,16):=by kernel_rfl
theorem sj:(Tryz.prog.info? 112).map (fun i=>(i.zero,i.size,i.bytes))=o_ (o_ (a_ #[i_ j_ 0,b_ false,t_ ⟨#[]⟩]),3,32):=by kernel_rfl
theorem kh:(Tryz.prog.info? 114).map (fun i=>(i.zero,i.size,i.bytes))=o_ (o_ (a_ #[i_ j_ 0,i_ j_ 0,s_ n_ 0 0]),3,40):=by kernel_rfl
theorem na:(Tryz.prog.info? 116).map (fun i=>(i.zero,i.size,i.bytes))=o_ (o_ (a_ #[i_ j_ 0,b_ false,b_ false,i_ j_ 0,s_ n_ 0 0]),5,48):=by kernel_rfl
theorem nb:(Tryz.prog.info? 100).map (fun i=>(i.zero,i.size,i.bytes))=o_ (o_ (a_ cE),12,128):=by kernel_rfl
theorem i6 {w:w_} {base g:Nat} {e:T_} {size:Nat} (hg:w.heap[g]? =o_ (c_ #[] e)) (hb:base≤g):w.ownsRow base e size (s_ (o_ ⟨g,0,n_⟩) 0 0) 0 [] :=
 ⟨by simp,.inr ⟨g,0,#[],rfl,hb,hg,Ki _,Ky _,by simp,by simp⟩⟩
theorem kK {P:Program} (w:w_) (base:Nat) (t ty e:T_) (i:TypeInfo) (z:v_) (size bytes:Nat) (ht:P.underlying t=o_ (.slice e)) (hi:P.info? e=o_ i) (hz:i.zero=o_ z)
  (hsize:i.size=size) (hby:i.bytes=bytes) (hzs:z.cells.size=size) (hsz:0 < size) (g:Nat) (hg:w.heap[g]? =o_ (c_ #[] e)) (hbg:base≤g) (a:Option d_) (n cap:Nat) (xs:List v_) (h:Row w a xs) (hl:xs.length=n * size) (h1: ∀ u∈xs,u.oneCell'=true)
  (h63:n≤1048576) (hb:bytes≤1000) (lY:base≤w.heap.size):
  ∃ a' cap' w',(Builtin.append_ #[t,t] ty #[s_ (o_ ⟨g,0,n_⟩) 0 0,s_ a n cap]).run P w= .ok (s_ a' n cap') w'∧w'.ownsRow base e size (s_ a' n cap') n xs∧w.grownBy w' (o_ g)∧ ∀ q∈blk a',q=g∨q=w.heap.size:=by
 cases a with
 | none=>
  have hx:xs= [] :=by
   exact ZbZ
  subst hx;have hn:n=0:=by
   cases n with
   | zero=>rfl
   | succ n=>simp only [List.length_nil,Lh] at hl; omega
  subst hn;refine ⟨o_ ⟨g,0,n_⟩,0,w,?_,i6 hg hbg,⟨rfl,rfl,rfl,Ki _,fun _ _ _=>rfl⟩,fun q hq=>by simp [blk] at hq; exact .inl hq⟩;simp [Builtin.append_,run_underlying ht,sizeOf,typeInfo,hi,Builtin.lenOf,Builtin.firstCells,storeCells]
 | some ad=>
  have hnews: ∀ j u,xs[j]? =o_ u→w.cell? (ad.add j)=o_ u:=fun j u hu=>by
   obtain ⟨g,e',hc⟩:=h j u hu;cases e';rw [qZ];exact hc
  obtain ⟨v',w',hr,ho,hgr,-,hbl⟩:=run_append_own_at (P:=P) w base t ty e i z size bytes ht hi hz hsize hby hzs hsz (s_ (o_ ⟨g,0,n_⟩) 0 0) 0 [] (i6 hg hbg) ad n cap xs hl hnews h1 ZcV (by rw [Li]; have:=acA h63 hb; omega) lY;simp only [Li,Ll] at ho;obtain ⟨a',cap',rfl,-⟩:=cr ho;refine ⟨a',cap',w',hr,ho,hgr,fun q hq=> ?_⟩;rw [fZ] at hq;cases a' with
  | none=>simp at hq
  | some ad'=>
   simp only [Option.map_some,LF] at hq;subst hq;rcases hbl with hbl | hbl
   ·exact .inl ZdE
   ·exact .inr ZdE
theorem Ec {l:List bD} : ∀ u∈dm.flat l,u.oneCell'=true:=fun u hu=>by
 obtain ⟨x,_,hx⟩:=Rt.1 hu;simp only [dm,yz,Kt,Ku,or_false] at hx;rcases hx with rfl | rfl | rfl <;> rfl
theorem xB {l:List aB} : ∀ u∈bJ.flat l,u.oneCell'=true:=fun u hu=>by
 obtain ⟨x,_,hx⟩:=Rt.1 hu;simp only [bJ,rY,Kt,Ku,or_false] at hx;rcases hx with rfl | rfl <;> rfl
theorem xV {l:List az} : ∀ u∈bG.flat l,u.oneCell'=true:=fun u hu=>by
 obtain ⟨x,_,hx⟩:=Rt.1 hu;simp only [bG,sn,Kt,Ku,or_false] at hx;rcases hx with rfl | rfl | rfl <;> rfl
theorem Iq (w:w_) (base g:Nat) (hg:w.heap[g]? =o_ (c_ #[] 105)) (hbg:base≤g) (a:Option d_) (l:List bD) (cap:Nat) (h:Row w a (dm.flat l)) (hl:l.length≤1048576) (lY:base≤w.heap.size):
  ∃ a' cap' w',(Builtin.append_ #[32,32] 32 #[s_ (o_ ⟨g,0,n_⟩) 0 0,s_ a l.length cap]).run J3 w= .ok (s_ a' l.length cap') w'∧w'.ownsRow base 105 3 (s_ a' l.length cap') l.length (dm.flat l)∧w.grownBy w' (o_ g)∧ ∀ q∈blk a',q=g∨q=w.heap.size:=by
 obtain ⟨i,hi,e⟩:=Kw.1 yS;simp only [Kx] at e;exact kK w base _ _ 105 i _ 3 24 underlying32 hi e.1 e.2.1 e.2.2 rfl (by decide) g hg hbg a l.length cap _ h (dm.dM l) Ec hl (by decide) lY
theorem Fp (w:w_) (base g:Nat) (hg:w.heap[g]? =o_ (c_ #[] 109)) (hbg:base≤g) (a:Option d_) (l:List aB) (cap:Nat) (h:Row w a (bJ.flat l)) (hl:l.length≤1048576) (lY:base≤w.heap.size):
  ∃ a' cap' w',(Builtin.append_ #[33,33] 33 #[s_ (o_ ⟨g,0,n_⟩) 0 0,s_ a l.length cap]).run J3 w= .ok (s_ a' l.length cap') w'∧w'.ownsRow base 109 2 (s_ a' l.length cap') l.length (bJ.flat l)∧w.grownBy w' (o_ g)∧ ∀ q∈blk a',q=g∨q=w.heap.size:=by
 obtain ⟨i,hi,e⟩:=Kw.1 so;simp only [Kx] at e;exact kK w base _ _ 109 i _ 2 16 underlying33 hi e.1 e.2.1 e.2.2 rfl (by decide) g hg hbg a l.length cap _ h (bJ.dM l) xB hl (by decide) lY
theorem ED (w:w_) (base g:Nat) (hg:w.heap[g]? =o_ (c_ #[] 112)) (hbg:base≤g) (a:Option d_) (l:List az) (cap:Nat) (h:Row w a (bG.flat l)) (hl:l.length≤1048576) (lY:base≤w.heap.size):
  ∃ a' cap' w',(Builtin.append_ #[34,34] 34 #[s_ (o_ ⟨g,0,n_⟩) 0 0,s_ a l.length cap]).run J3 w= .ok (s_ a' l.length cap') w'∧w'.ownsRow base 112 3 (s_ a' l.length cap') l.length (bG.flat l)∧w.grownBy w' (o_ g)∧ ∀ q∈blk a',q=g∨q=w.heap.size:=by
 obtain ⟨i,hi,e⟩:=Kw.1 sj;simp only [Kx] at e;exact kK w base _ _ 112 i _ 3 32 underlying34 hi e.1 e.2.1 e.2.2 rfl (by decide) g hg hbg a l.length cap _ h (bG.dM l) xV hl (by decide) lY
theorem Gg (w:w_) (base g:Nat) (hg:w.heap[g]? =o_ (c_ #[] 165)) (hbg:base≤g) (a:Option d_) (l:List dN) (cap:Nat) (h:Row w a (fk.flat l)) (hl:l.length≤1048576) (lY:base≤w.heap.size):
  ∃ a' cap' w',(Builtin.append_ #[98,98] 98 #[s_ (o_ ⟨g,0,n_⟩) 0 0,s_ a l.length cap]).run J3 w= .ok (s_ a' l.length cap') w'∧w'.ownsRow base 165 4 (s_ a' l.length cap') l.length (fk.flat l)∧w.grownBy w' (o_ g)∧ ∀ q∈blk a',q=g∨q=w.heap.size:=by
 obtain ⟨i,hi,e⟩:=Kw.1 D5;simp only [Kx] at e;exact kK w base _ _ 165 i _ 4 40 underlying98 hi e.1 e.2.1 e.2.2 rfl (by decide) g hg hbg a l.length cap _ h (fk.dM l) FE hl (by decide) lY
theorem tO (w:w_) (base g:Nat) (hg:w.heap[g]? =o_ (c_ #[] 9)) (hbg:base≤g) (a:Option d_) (l:List ByteArray) (cap:Nat) (h:Row w a (bT.flat l)) (hl:l.length≤1048576) (lY:base≤w.heap.size):
  ∃ a' cap' w',(Builtin.append_ #[91,91] 91 #[s_ (o_ ⟨g,0,n_⟩) 0 0,s_ a l.length cap]).run J3 w= .ok (s_ a' l.length cap') w'∧w'.ownsRow base 9 1 (s_ a' l.length cap') l.length (bT.flat l)∧w.grownBy w' (o_ g)∧ ∀ q∈blk a',q=g∨q=w.heap.size:=by
 obtain ⟨i,hi,e⟩:=Kw.1 zD;simp only [Kx] at e;exact kK w base _ _ 9 i _ 1 16 underlying91 hi e.1 e.2.1 e.2.2 rfl (by decide) g hg hbg a l.length cap _ h (bT.dM l) yK hl (by decide) lY
section
variable {P:Program} {Q:Exit→Act→w_→Prop} {K:Act→w_→Prop} {o:Oper} {a:Act} {w:w_}
theorem cM (s x:Operand) (t:T_) (ho:o.op= .call { callee:= .builtin .append,args:= #[s,x],argTypes:= #[t,t] }) (v u r:v_) (w':w_) (hs:a.eval s=v) (hx:a.eval x=u) (hr:(Builtin.append_ #[t,t] o.type #[v,u]).run P w= .ok r w')
  (h:K (a.put o.dst r) w'):Oper.wp P o a w K Q:=by
 unfold Oper.wp execOp;simp only [ho,resolve,invoke,builtin,QR,QS,QT,List.map_toArray,List.map_cons,List.map_nil,hs,hx,hr];exact h
theorem qd (ty:T_) (x y:Operand) (ho:o.op= .store ty x y) (g:Nat) (t:T_) (old cells:Array v_) (hx:a.eval x=p_ (o_ ⟨g,0,n_⟩)) (hy:a.eval y=a_ cells) (hg:w.heap[g]? =o_ (c_ old t)) (hi:(P.info? ty).map (·.size)=o_ cells.size)
  (hs:old.size=cells.size) (h1:cells.all (·.oneCell')=true) (h:K (a.put o.dst undef) (w.setRow g cells)):Oper.wp P o a w K Q:=by
 unfold Oper.wp execOp;simp only [ho,hx,hy,Instr.storeAt,Instr.sureAddr,QR,QS,QT,run_storeVar_row w g t ty old cells hg hi hs h1];exact h
theorem wpList_store_row {ops:Array Oper} {rest:List Oper} (hgd:o.guard=n_) (ty:T_) (x y:Operand) (ho:o.op= .store ty x y) (g:Nat) (t:T_) (old cells:Array v_) (hx:a.eval x=p_ (o_ ⟨g,0,n_⟩)) (hy:a.eval y=a_ cells) (hg:w.heap[g]? =o_ (c_ old t)) (hi:(P.info? ty).map (·.size)=o_ cells.size)
  (hs:old.size=cells.size) (h1:cells.all (·.oneCell')=true) (h:wpList P ops Q rest (a.put o.dst undef) (w.setRow g cells)):wpList P ops Q (o :: rest) a w:=
 wpList_plain hgd fun _ hK=>qd ty x y ho g t old cells hx hy hg hi hs h1 (hK _ _ h)
end
structure su (w:w_) (base:Nat) (T:T_) (size len:Nat) (xs:List v_) (b c:Bool) (g:Nat) (a:Option d_) (cap:Nat):Prop where
 made:b=true→c=false→w.heap[g]? =o_ (c_ #[] T)∧base≤g
 done:c=true→w.ownsRow base T size (s_ a len cap) len xs
def bM (b c:Bool) (g:Nat) (a:Option d_):List Nat:=bif c then blk a else bif b then [g] else []
theorem su.same {w w':w_} {base:Nat} {T:T_} {size len:Nat} {xs:List v_} {b c:Bool} {g:Nat} {a:Option d_} {cap:Nat} (h:su w base T size len xs b c g a cap) (hs: ∀ q∈bM b c g a,w'.heap[q]? =w.heap[q]?):su w' base T size len xs b c g a cap:=by
 refine ⟨fun hb hc=> ?_,fun hc=> ?_⟩
 ·subst hb hc
  exact ⟨(hs g (by simp [bM])).trans (h.made rfl rfl).1,(h.made rfl rfl).2⟩
 ·subst hc
  exact aL (h.done rfl) fun q hq=>hs q (by simpa [bM] using hq)
end
end Go.Proofs.YtnlbiglljiopmaaGreatDoor
