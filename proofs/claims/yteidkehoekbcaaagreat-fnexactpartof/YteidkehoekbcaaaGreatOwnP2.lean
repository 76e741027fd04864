/- What the proof leans on, part 2. -/
import Derived.Test.YteidkehoekbcaaaGreatOwnK19
import Derived.Test.YteidkehoekbcaaaGreatOwnP0
set_option maxRecDepth 100000
set_option maxHeartbeats 8000000
open Go renaming callsIn_wide->LO,heap_alloc_new->Kj
open Go.Proofs.Tryz renaming prog->J3
open Go.RowKit.Below renaming refl->Kp
open Go.Value.slice renaming injEq->LD
open List renaming cons_append->Qw,getElem?_append_right->Qo,getElem?_eq_getElem->Kz,getElem?_eq_some_iff->Lj
open Nat renaming le_refl->Ki

namespace Go.Proofs.YteidkehoekbcaaaGreat
section
open Go.RowKit Go.Maps Go.Sort Go.Shelf
theorem yI (mb:Option Nat) (W:World):Calls J3 189 #[.map mb] W fun e w'=>e= .returned (.func (.func 219) #[] #[.pointer (some ⟨W.heap.size,0,none⟩)])∧w'=W.alloc (.cells #[.map mb] 164):=
 (LO (n:=5)).1 (AnyZI.keys_in Tryz.keysSem Fence.wide 5 trivial rfl mb W)
theorem qR (Bm b:Nat) (m:df) (W:World) (hBm:Bm < W.heap.size) (hc:W.cell? ⟨Bm,0,none⟩=some (.map (some b))) (h:cF W b m) (hm:m.length≤1048576):
  Calls J3 124 #[.func (.func 219) #[] #[.pointer (some ⟨Bm,0,none⟩)]] W fun e w'=> ∃ v:Value,e= .returned v∧w'.ownsRow W.heap.size 2 1 v m.length (m.map fun p=> .int .i64 p.1)∧Below W.heap.size W w':=by
 have hsz:Maps.size (gA m)=m.length:=size_map m;have hseq:SeqGives Fence.wide 2 J3 219 #[.pointer (some ⟨Bm,0,none⟩)] encZ (fun ss=>ss.Perm (intKeys (gA m))) (Maps.size (gA m)) W:=
  AnyZI.keys_gives (ρ:=Tryz.keysSem_ren) { Tryz.keysSem with } Fence.wide _ trivial rfl (by omega) Bm b m.length (gA m) W hBm hc h.1
 have cS:=AnyZI.sorted_in Tryz.sortedA Fence.wide 5 trivial trivial trivial trivial rfl (by omega) (Tryz.sortsA _) (enters_of Tryz.func129 (by kernel_rfl) rfl) 219 #[.pointer (some ⟨Bm,0,none⟩)] trivial (enters_of Tryz.func219 (by kernel_rfl) rfl) _ _ (by rw [hsz]; unfold maxLen; omega) (by rw [hsz]; omega) _ hseq
 change CallsIn _ _ J3 124 _ _ _ at cS
 refine (LO.1 cS).mono ?_;rintro e w' ⟨v,ss,rfl,hS,hrow,hnil,kj⟩;refine ⟨v,rfl,?_,kj⟩;rw [jG h.2 hS] at hrow;have hl:ss.length=m.length:=by
  rw [hS.length_eq,lU,List.length_map]
 rw [hl,List.map_map] at hrow;exact hrow
theorem CX:(Tryz.prog.info? 247).map (fun i=>(i.zero,i.size,i.bytes))=some (some (.pointer none),1,8):=by kernel_rfl
theorem CS (Me:Int) (b:Nat) (m:df) (w:World) (h:cF w b m) (hm:m.length≤1048576) (hwf: ∀ p∈m,(Lit.int .i64 p.1).wf=true):
  Calls J3 150 #[.agg #[.int .i64 Me,.map (some b)]] w fun e w'=> ∃ a cap,e= .returned (.slice a m.length cap)∧w'.ownsRow w.heap.size 247 1 (.slice a m.length cap) m.length (m.map fun p=>dt p.2)∧Below w.heap.size w w':=by
 obtain ⟨i0,hi,e0⟩:=Option.map_eq_some_iff.1 CX;simp only [Prod.mk.injEq] at e0;have HI:Hid (Tryz.prog.info? 247=some i0∧i0.zero=some (.pointer none)∧i0.size=1∧i0.bytes=8):=⟨hi,e0⟩
 have HM:Hid (cF w b m∧ ∀ p∈m,(Lit.int .i64 p.1).wf=true):=⟨h,hwf⟩
 have hbl:b < w.heap.size:=h.lt;clear hi e0 h hwf
 go_enter Tryz.func150,Tryz.ntmps150
 go_wp2_with (go_at_call 189; refine (yI _ _).mono ?_; rintro e w' ⟨rfl,rfl⟩);refine (qR (w.heap.size+1) b m _ (by simp) (by simp) (HM.I.1.below (((Kp _ w).alloc (Ki _) _).alloc (by simp) _)) hm).mono ?_;rintro e w2 ⟨v,rfl,hown,hb2⟩;have cy:Hid (Below w.heap.size w w2):=(((Kp _ w).alloc (Ki _) _).alloc (by simp) _).trans (hb2.mono (by simp; omega));have HS:Hid (w2.heap[w.heap.size]? =some (.cells #[.int .i64 Me,.map (some b)] 166 (0,0))):=(hb2.block _ (by simp; omega)).trans ((PU (by simp)).trans (Kj _ _));obtain ⟨a,cap,hv,hrow⟩:=cr hown;have HR:Hid (Row w2 a (m.map fun p=> .int .i64 p.1)):=hrow;rw [hv];clear hv hown hrow hb2 v;go_wp2_with fail
 go_loopw [3,11] (fun l i wr=> ∃ k:Nat,k≤m.length∧i= .int .i64 k∧ ∃ a' cap',l= .slice a' k cap'∧Hid (wr.ownsRow w2.heap.size 247 1 (.slice a' k cap') k ((m.take k).map fun p=>dt p.2)∧Below w2.heap.size w2 wr)) (fun _ i _=>m.length - (intOf i).toNat)
 case atStart=>exact ⟨0,Nat.zero_le _,rfl,none,0,rfl,⟨World.ownsRow_nil _ _ _ _,Kp _ _⟩⟩
 case round=>
  obtain ⟨k,hk,rfl,a',cap',rfl,HO⟩:=hrel;by_cases hlt:k < m.length
  ·have qE:(0:Int)≤(k:Int):=by omega
   have i1:(k:Int) < (m.length:Int):=by omega
   obtain ⟨p,hp⟩: ∃ p,m[k]? =some p:=⟨_,Kz hlt⟩
   have hpm:=List.mem_of_getElem? hp;obtain ⟨g,ha,hc⟩:=(HR.I.below HO.I.2) k (.int .i64 p.1) (by simp [hp]);subst ha;have oE:=cy.I.size;have kT:=HO.I.2.size;have ut:cF wr b m:=HM.I.1.below (cy.I.trans (HO.I.2.mono oE));have hlk:=ut.look Tryz.underlying164 (vU wr) (HM.I.2 p hpm) false;rw [jI ut.2 hpm] at hlk;have hsw:wr.heap[w.heap.size]? =some (.cells #[.int .i64 Me,.map (some b)] 166 (0,0)):=(HO.I.2.block _ (Array.getElem?_eq_some_iff.1 HS.I).1).trans HS.I;have s1:wr.cell? ⟨w.heap.size,1,none⟩=some (.map (some b)):=by simp [World.cell?,hsw]
   have HP:Hid (m[k]? =some p):=hp;simp only [qz,dt,Bool.false_eq_true,if_false] at hlk;clear hp hpm ut hsw;go_wp2_with (at_builtin; refine wpList_append_own_at _ rfl _ _ 245 rfl w2.heap.size 247 i0 (.pointer none) 1 8 Tryz.underlying245 HI.I.1 HI.I.2.1 HI.I.2.2.1 HI.I.2.2.2 rfl (by decide) (.slice a' k cap') k ((m.take k).map fun p=>dt p.2) rfl (HO.I.1.alloc _) ⟨wr.heap.size,0,none⟩ 1 1 [.pointer (some ⟨p.2,0,none⟩)] (by rfl) rfl (World.news_of_block (cs:= #[.pointer (some ⟨p.2,0,none⟩)]) (t:=247) (fr:=(0,0)) (Kj wr _)) (by simp [Value.oneCell']) (by unfold maxLen; omega) (by omega) (by simp; omega) ?_; intro v' w5 hown' hgrow hnil jV; obtain ⟨a5,im,rfl,-⟩:=cr hown'; have HN:Hid (w5.ownsRow w2.heap.size 247 1 (.slice a5 (k+1) im) (k+1) ((m.take (k+1)).map fun p=>dt p.2)∧Below w2.heap.size w2 w5):=⟨by rw [cj HP.I,List.map_append]; exact hown',(HO.I.2.alloc kT _).grown hgrow (by simp; omega) (fun q hq=>(HO.I.1.lt q hq).1)⟩; clear hown' hgrow hnil jV);go_roundw
   case rel=>exact ⟨k+1,by omega,by go_num,a5,im,rfl,HN⟩
   case measure=>simp [intOf]; omega
  ·have i1: ¬ (k:Int) < (m.length:Int):=by omega
   have e:k=m.length:=by omega
   subst e;go_wp2;go_ret;refine ⟨a',cap',rfl,?_,cy.I.trans (HO.I.2.mono cy.I.size)⟩
   have:=cq HO.I.1 cy.I.size
   rwa [List.take_length] at this
end
section
open Go.RowKit
section
variable {w w1 w2:World} {bs bs':List Nat}
end
section
variable {α:Type} {K:Kind α}
theorem bl.owns {T:TypeId} {w:World} {base g cap:Nat} {l:List α} (h:bl K T w base g cap l):w.ownsRow base T K.n (.slice (some ⟨g,0,none⟩) l.length cap) l.length (K.flat l):=by
 obtain ⟨cur,h1,h2,h3,h4,h5,h6⟩:=h;exact ⟨K.dM l,.inr ⟨g,cap,cur,rfl,h2,h1,h3,h4,h5,h6⟩⟩
theorem bl.fX {T:TypeId} {w:World} {base cap:Nat} {a:Option Addr} {l:List α} (h:w.ownsRow base T K.n (.slice a l.length cap) l.length (K.flat l)) (hl: ¬ l.length=0): ∃ g,a=some ⟨g,0,none⟩∧bl K T w base g cap l:=by
 rcases h.2 with ⟨_,h0⟩ | ⟨g,c,cur,hv,h1,h2,h3,h4,h5,h6⟩
 ·exact absurd h0 hl
 ·simp only [LD] at hv
  obtain ⟨rfl,-,rfl⟩:=hv;exact ⟨g,rfl,cur,h2,h1,h3,h4,h5,h6⟩
theorem bl.eO {T:TypeId} {w:World} {base g cap j:Nat} {A B:List α} {x:α} (h:bl K T w base g cap (A ++ x :: B)) (hA:A.length=j) {r:Nat} (hr:r < K.n):(∃ u,w.cell? ⟨g,j * K.n+r,none⟩=some u)∧w.frozen? ⟨g,j * K.n+r,none⟩=false:=by
 have hx:(A ++ x :: B)[j]? =some x:=by
  subst hA;rw [Qo (Ki _)];simp
 obtain ⟨h1,h2⟩:=h.cell hx hr;rw [Kz (by rw [K.len]; exact hr)] at h1;exact ⟨⟨_,h1⟩,h2⟩
theorem bl.uD {T:TypeId} {w:World} {base g cap j:Nat} {A B:List α} {x:α} (h:bl K T w base g cap (A ++ x :: B)) (hA:A.length=j) {r:Nat} (hr:r < K.n):w.cell? ⟨g,j * K.n+r,none⟩=(K.vals x)[r]? :=by
 have hx:(A ++ x :: B)[j]? =some x:=by
  subst hA;rw [Qo (Ki _)];simp
 exact (h.cell hx hr).1
theorem mz {l:List α} {k:Nat} {x:α} (hx:l[k]? =some x):l.drop k=x :: l.drop (k+1):=by
 obtain ⟨hk,rfl⟩:=Lj.1 hx;exact List.drop_eq_getElem_cons hk
def aJ (f:Int→α→α) (c:α→Nat):Int→List α→List α
 | _,[] => []
 | k,x :: r=>f k x :: aJ f c (k+c x) r
def aF (c:α→Nat):List α→Nat
 | [] =>0
 | x :: r=>c x+aF c r
theorem oz (c:α→Nat): ∀ l r:List α,aF c (l ++ r)=aF c l+aF c r
 | [],r=>by simp [aF]
 | x :: l,r=>by simp only [Qw,aF,oz c l r]; omega
theorem nA (f:Int→α→α) (c:α→Nat): ∀ (k:Int) (l r:List α),aJ f c k (l ++ r)=aJ f c k l ++ aJ f c (k+aF c l) r
 | k,[],r=>by simp [aJ,aF]
 | k,x :: l,r=>by
  simp only [Qw,aJ,aF,nA f c (k+c x) l r];rw [show k+(c x:Int)+(aF c l:Int)=k+((c x+aF c l:Nat):Int) by omega]
theorem bE (f:Int→α→α) (c:α→Nat): ∀ (k:Int) (l:List α),(aJ f c k l).length=l.length
 | _,[] =>rfl
 | k,x :: r=>by simp [aJ,bE f c (k+c x) r]
theorem kr {c:α→Nat} {n:Nat} (h: ∀ x,c x=n): ∀ l:List α,aF c l=l.length * n
 | [] =>by simp [aF]
 | x :: r=>by rw [aF,h x,kr h r,List.length_cons,Nat.succ_mul]; omega
theorem du {c:α→Nat} {l:List α} {i:Nat} {x:α} (hx:l[i]? =some x):aF c (l.take i)+c x≤aF c l:=by
 have e:=kL hx
 have:aF c l=aF c (l.take i ++ x :: l.drop (i+1)):=by rw [← e]
 rw [this,oz,aF];omega
theorem gK {c:α→Nat} {l:List α} {i:Nat} {x:α} (hx:l[i]? =some x):aF c (l.take (i+1))=aF c (l.take i)+c x:=by
 rw [cj hx,oz];simp [aF]
theorem jK {f:Int→α→α} {c:α→Nat} {k:Int} {l:List α} {i:Nat} {x:α} (hx:l[i]? =some x):(aJ f c k l)[i]? =some (f (k+aF c (l.take i)) x):=by
 have hi:i < l.length:=(Lj.1 hx).1;have e:aJ f c k l=aJ f c k (l.take i ++ x :: l.drop (i+1)):=by rw [← kL hx]
 have hn:(aJ f c k (l.take i)).length=i:=by rw [bE,List.length_take]; omega
 rw [e,nA,Qo (by omega),hn,Nat.sub_self];rfl
theorem kE {f:Int→α→α} {c:α→Nat} {k:Int} {l:List α} {i:Nat} {x:α} (hx:l[i]? =some x):aJ f c k (l.take (i+1))=aJ f c k (l.take i) ++ [f (k+aF c (l.take i)) x] :=by
 rw [cj hx,nA];rfl
end
end
end Go.Proofs.YteidkehoekbcaaaGreat
