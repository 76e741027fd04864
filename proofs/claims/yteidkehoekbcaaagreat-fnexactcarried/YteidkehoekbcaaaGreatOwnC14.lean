/- What the proof leans on, part 14. -/
import Derived.Test.YteidkehoekbcaaaGreatOwnC9
import Derived.Test.YteidkehoekbcaaaGreatOwnC13
set_option maxRecDepth 100000
set_option maxHeartbeats 8000000
open Array renaming getElem?_eq_some_iff->J2
open Function renaming comp_def->Ls
open Go renaming heap_alloc_new->Kj,heap_setCell_same->K7,wp_at_succ->Kd,wp_at_zero->Kc
open Go.Proofs.Tryz renaming prog->J3
open Go.RowKit.Below renaming refl->Kp
open List renaming filterMap_cons->LH,getElem?_eq_getElem->Kz,getElem?_eq_some_iff->Lj,map_append->Kl,mem_append->Kg,mem_append_left->Lz,mem_append_right->Ly,mem_cons_of_mem->LB,mem_filterMap->Lq,mem_flatMap->Rt,mem_map->Lr,mem_of_getElem?->KA,mem_of_mem_take->RK,mem_singleton->KB,nodup_append->Kf,nodup_cons->Lp
open Nat renaming le_refl->Ki

namespace Go.Proofs.YteidkehoekbcaaaGreat
section
open Go.RowKit Go.Maps
def aZ.ju (S:aZ) (g:Nat) (f:ao→ao) (nx:Int):aZ:= { S with q:= { S.q with next:=nx },lp:=sU g f S.lp }
theorem GW {g:Nat} {f:ao→ao} (hf: ∀ x,aR.bt (f x)=aR.bt x) (l:List (ao × Nat)):kids aR (sU g f l)=kids aR l:=by
 induction l with
 | nil=>rfl
 | cons p r ih=>
  have e:(sU g f (p :: r))=(if p.2=g then (f p.1,p.2) else p) :: sU g f r:=rfl;simp only [kids,LH] at ih ⊢;rw [e];simp only [LH];by_cases h:p.2=g
  ·simp only [h,if_true,hf]
   rw [ih]
  ·simp only [h,if_false]
   rw [ih]
theorem cJ.ju {w w':World} {base o g:Nat} {S:aZ} {f:ao→ao} {nx:Int} (h:cJ w base o S) (hf: ∀ x,(f x).id=x.id∧(f x).prog=x.prog∧(f x).aY=x.aY∧(f x).bH=x.bH)
  (hc: ∀ p∈S.lp,p.2=g→w'.heap[g]? =some (.cells (aX (f p.1)) 148 (0,0))) (hg:g∈S.lp.map (·.2)) (ho:fa w' o { S.q with next:=nx }) (hs: ∀ b,b≠g→b≠o→w'.heap[b]? =w.heap[b]?):cJ w' base o (S.ju g f nx):=by
 have iH: ∀ x,aR.bt (f x)=aR.bt x:=fun x=>by show (f x).aY.map (·.block)=x.aY.map (·.block); rw [(hf x).2.2.1]
 have hn:=h.nodup;have hno:=(Lp.1 hn).1;have yD:=(Kf.1 (Lp.1 hn).2)
 have jQ:=yD.1;unfold aZ.boxes at jQ;have hin: ∀ b,b∈S.boxes∨b∈S.kids→b≠o:=fun b hb e=>hno (by rw [← e]; exact Kg.2 hb)
 have hp:=Kf.1 jQ;have l9:g∈S.q.bp :: S.lp.map (·.2):=LB _ hg;have hgr: ∀ b,b∈((S.q.bs :: S.ls.map (·.2)) ++ ((S.q.be :: S.le.map (·.2)) ++ ((S.q.bb :: S.lb.map (·.2)) ++ ((S.q.bf :: S.lf.map (·.2)) ++ (S.q.bq :: S.lq.map (·.2))))))→b≠g:=fun b hb e=>hp.2.2 g l9 b hb e.symm
 have EI: ∀ b∈S.kids,b≠g:=fun b hb e=>yD.2.2 g (by unfold aZ.boxes; exact Lz _ l9) b hb e.symm
 have hbp:S.q.bp≠g:=fun e=>by
  have:=(Lp.1 hp.1).1
  rw [e] at this;exact this hg
 have lW: ∀ b,b∈(S.q.bp :: S.lp.map (·.2))→b≠o:=fun b hb=>hin b (.inl (by unfold aZ.boxes; exact Lz _ hb))
 have hbr: ∀ b,b∈((S.q.bs :: S.ls.map (·.2)) ++ ((S.q.be :: S.le.map (·.2)) ++ ((S.q.bb :: S.lb.map (·.2)) ++ ((S.q.bf :: S.lf.map (·.2)) ++ (S.q.bq :: S.lq.map (·.2))))))→w'.heap[b]? =w.heap[b]? :=fun b hb=>hs b (hgr b hb) (hin b (.inl (by unfold aZ.boxes; exact Ly _ hb)))
 have hkk: ∀ b∈S.kids,w'.heap[b]? =w.heap[b]? :=fun b hb=>hs b (EI b hb) (hin b (.inr hb))
 have hmem: ∀ (b:Nat),(b∈kids aR S.lp∨b∈kids aC S.lf∨b∈kids aU S.lq)→b∈S.kids:=fun b hb=>by simp only [aZ.kids,Kg]; exact hb
 refine ⟨ho,h.L8.sU (fun p _ _=>(hf p.1).1) hc (hs _ hbp (lW _ (by simp))) (fun b hb hne=>hs b hne (lW b (LB _ hb))),h.aj.same fun b hb=>hbr b (Lz _ hb),h.L9.same fun b hb=>hbr b (Ly _ (Lz _ hb)),h.ag.same fun b hb=>hbr b (Ly _ (Ly _ (Lz _ hb))),h.ae.same fun b hb=>hbr b (Ly _ (Ly _ (Ly _ (Lz _ hb)))),h.ai.same fun b hb=>hbr b (Ly _ (Ly _ (Ly _ (Ly _ hb)))),fun p hp'=> ?_,fun p hp'=>(h.eE p hp').same fun b hb=>hkk b (hmem b (.inr (.inl (Lq.2 ⟨p,hp',hb⟩)))),fun p hp'=>(h.eR p hp').same fun b hb=>hkk b (hmem b (.inr (.inr (Lq.2 ⟨p,hp',hb⟩)))),?_,h.low⟩
 ·obtain ⟨r,hr,rfl⟩:=yy.1 hp'
  have hm:aR.cO w' base r.1:=(h.eI r hr).same fun b hb=>hkk b (hmem b (.inl (Lq.2 ⟨r,hr,hb⟩)))
  split
  ·show w'.ownsRow base _ 4 (.slice (f r.1).aY (f r.1).prog.length (f r.1).bH) (f r.1).prog.length (fk.flat (f r.1).prog)
   rw [(hf r.1).2.1,(hf r.1).2.2.1,(hf r.1).2.2.2];exact hm
  ·exact hm
 ·have e1:(S.ju g f nx).boxes=S.boxes:=by simp only [aZ.boxes,aZ.ju,qb]
  have e2:(S.ju g f nx).kids=S.kids:=by simp only [aZ.kids,aZ.ju,GW iH]
  rw [e1,e2];exact hn
end
section
open Go.RowKit
attribute [local go_sem ↓] Kc Kd
def eA.Mc (k:eA):List Nat:=blk k.vb ++ (blk k.qn ++ (blk k.qi ++ k.parts.flatMap af.Mc))
def V8 (k:eA):Nat:=aF (fun _=>3) k.fn+aF V0 k.parts+aF (fun _=>4) k.eC
def WA (m:Int) (k:eA):eA:= { k with fn:=aJ Wb (fun _=>3) m k.fn,parts:=aJ V9 V0 (m+(aF (fun _=>3) k.fn:Nat)) k.parts,eC:=aJ Wa (fun _=>4) (m+(aF (fun _=>3) k.fn:Nat)+(aF V0 k.parts:Nat)) k.eC }
section
variable {w w':World} {base:Nat} {k:eA}
theorem gp.apart (h:gp w base k):(∀ g∈blk k.vb,g∉blk k.qn∧g∉blk k.qi∧g∉k.parts.flatMap af.Mc)∧(∀ g∈blk k.qn,g∉blk k.qi∧g∉k.parts.flatMap af.Mc)∧ ∀ g∈blk k.qi,g∉k.parts.flatMap af.Mc:=by
 obtain ⟨-,h2,h3⟩:=Kf.1 h.nodup;obtain ⟨-,h5,h6⟩:=Kf.1 h2;obtain ⟨-,-,h9⟩:=Kf.1 h5;exact ⟨fun g hg=>⟨fun hm=>h3 g hg g (Lz _ hm) rfl,fun hm=>h3 g hg g (Ly _ (Lz _ hm)) rfl,fun hm=>h3 g hg g (Ly _ (Ly _ hm)) rfl⟩,fun g hg=>⟨fun hm=>h6 g hg g (Lz _ hm) rfl,fun hm=>h6 g hg g (Ly _ hm) rfl⟩,fun g hg hm=>h9 g hg g hm rfl⟩
theorem gp.Xa {l:List pA} (h:gp w base k) (ho:w'.ownsRow base 100 3 (.slice k.vb k.fn.length k.Te) k.fn.length (jq.flat l)) (hl:l.length=k.fn.length) (hk:aI w w' (blk k.vb)):gp w' base { k with fn:=l } :=by
 obtain ⟨a1,a2,a3⟩:=h.apart;exact ⟨by rw [hl]; exact ho,aL h.parts fun g hg=>hk.same g (cf h.parts hg).2 fun hm=>(a1 g hm).1 hg,aL h.eC fun g hg=>hk.same g (cf h.eC hg).2 fun hm=>(a1 g hm).2.1 hg,fun p hp=>(h.mine p hp).same fun g hg=>hk.same g ((h.mine p hp).lt g hg).2 fun hm=>(a1 g hm).2.2 (Rt.2 ⟨p,hp,hg⟩),h.nodup⟩
theorem gp.WR {l:List af} (h:gp w base k) (ho:w'.ownsRow base 48 8 (.slice k.qn k.parts.length k.sa) k.parts.length (kp.flat l)) (hl:l.length=k.parts.length) (hm: ∀ q∈l,ap w' base q) (hb:l.flatMap af.Mc=k.parts.flatMap af.Mc) (hk:aI w w' (blk k.qn ++ k.parts.flatMap af.Mc)):gp w' base { k with parts:=l } :=by
 obtain ⟨a1,a2,a3⟩:=h.apart;exact ⟨aL h.fn fun g hg=>hk.same g (cf h.fn hg).2 fun hm=>(Kg.1 hm).elim (a1 g hg).1 (a1 g hg).2.2,by rw [hl]; exact ho,aL h.eC fun g hg=>hk.same g (cf h.eC hg).2 fun hm=>(Kg.1 hm).elim (fun hm=>(a2 g hm).1 hg) (a3 g hg),hm,by have:=h.nodup; rw [← hb] at this; exact this⟩
theorem gp.WV {l:List eQ} (h:gp w base k) (ho:w'.ownsRow base 80 4 (.slice k.qi k.eC.length k.tC) k.eC.length (hM.flat l)) (hl:l.length=k.eC.length) (hk:aI w w' (blk k.qi)):gp w' base { k with eC:=l } :=by
 obtain ⟨a1,a2,a3⟩:=h.apart;exact ⟨aL h.fn fun g hg=>hk.same g (cf h.fn hg).2 fun hm=>(a1 g hg).2.1 hm,aL h.parts fun g hg=>hk.same g (cf h.parts hg).2 fun hm=>(a2 g hg).1 hm,by rw [hl]; exact ho,fun p hp=>(h.mine p hp).same fun g hg=>hk.same g ((h.mine p hp).lt g hg).2 fun hm=>a3 g hm (Rt.2 ⟨p,hp,hg⟩),h.nodup⟩
theorem gp.lt (h:gp w base k) {g:Nat} (hg:g∈k.Mc):base≤g∧g < w.heap.size:=by
 unfold eA.Mc at hg;simp only [Kg] at hg;rcases hg with hg | hg | hg | hg
 ·exact cf h.fn hg
 ·exact cf h.parts hg
 ·exact cf h.eC hg
 ·obtain ⟨p,hp,l9⟩:=Rt.1 hg
  exact (h.mine p hp).lt g l9
end
theorem WB (major:Int) (a:Option Addr) (l:List pA) (cap:Nat) (k:Int) (w:World) (base:Nat) (hl:l.length≤1048576) (h0:1≤k) (h1:k+(aF (fun _=>3) l:Nat)≤90000000) (ho:w.ownsRow base 100 3 (.slice a l.length cap) l.length (jq.flat l)):
  Calls J3 54 #[.agg #[.int .i64 major,.slice a l.length cap],.int .i64 k] w fun e w'=>e= .returned (.int .i64 (k+(aF (fun _=>3) l:Nat)))∧w'.ownsRow base 100 3 (.slice a l.length cap) l.length (jq.flat (aJ Wb (fun _=>3) k l))∧aI w w' (blk a):=by
 have hz:Below w.heap.size w (w.alloc (.cells #[.int .i64 major,.slice a l.length cap] 33)):=(Kp _ _).alloc (Ki _) _;have Mb:=WE a l cap k (w.alloc (.cells #[.int .i64 major,.slice a l.length cap] 33)) base hl h0 h1 (cR ho hz);have HZ:=aA hz;clear ho hz
 go_enter Tryz.func54,Tryz.ntmps54
 go_wp2_with fail;refine Mb.mono ?_;clear Mb;rintro e W1 ⟨rfl,how,hkb⟩;have HY:=aA (And.intro how ((aI.dI HZ.I (bs:=blk a)).trans hkb));clear how hkb;go_wp2;go_ret;exact ⟨rfl,HY.I⟩
structure eA.WN (k:eA):Prop where
 Ts:k.fn.length≤1048576
 sC:k.parts.length≤1048576
 w8:k.eC.length≤1048576
 parts: ∀ p∈k.parts,p.WN
theorem Wv (k:eA) (m:Int) (w:World) (base:Nat) (hc:k.WN) (h0:1≤m) (h1:m+(V8 k:Nat)≤90000000) (ho:gp w base k):
  Calls J3 16 #[.agg k.row,.int .i64 m] w fun e w'=>e= .returned (.int .i64 (m+(V8 k:Nat)))∧gp w' base (WA m k)∧aI w w' k.Mc:=by
 have hz:Below w.heap.size w (w.alloc (.cells k.row 37)):=(Kp _ _).alloc (Ki _) _;have HK:Hid (Tk (w.alloc (.cells k.row 37)) w.heap.size k∧gp (w.alloc (.cells k.row 37)) base k∧aI w (w.alloc (.cells k.row 37)) k.Mc):=⟨Kj _ _,ho.below hz,aI.dI hz⟩
 have HC:=aA hc;have HN:Hid (w.heap.size∉k.Mc):=fun hm=>by have:=(ho.lt hm).2; omega
 have q0:m+(aF (fun _:pA=>3) k.fn:Nat)≤90000000:=by unfold V8 at h1; omega
 have q1:m+(aF (fun _:pA=>3) k.fn:Nat)+(aF V0 k.parts:Nat)≤90000000:=by unfold V8 at h1; omega
 have q2:m+(aF (fun _:pA=>3) k.fn:Nat)+(aF V0 k.parts:Nat)+(aF (fun _:eQ=>4) k.eC:Nat)≤90000000:=by unfold V8 at h1; omega
 clear hc ho hz h1
 go_enter Tryz.func16,Tryz.ntmps16
 go_upto_region 1 with fail;generalize w.alloc (.cells k.row 37)=W0 at *;obtain ⟨m0,m1,m2,m3,m4⟩:=HK.I.1.cells;have Mb:=WB k.major k.vb k.fn k.Te m W0 base HC.I.Ts h0 q0 HK.I.2.1.fn;go_wp2_with fail;clear m0 m1 m2 m3 m4;refine Mb.mono ?_;clear Mb;rintro e W1 ⟨rfl,how,hkb⟩;have hsub: ∀ g∈blk k.vb,g∈k.Mc:=fun g hg=>Lz _ hg
 replace HK:Hid (Tk W1 w.heap.size k∧gp W1 base { k with fn:=aJ Wb (fun _=>3) m k.fn } ∧aI w W1 k.Mc):=⟨(hkb.same _ (J2.1 HK.I.1).1 fun hm=>HN.I (hsub _ hm)).trans HK.I.1,HK.I.2.1.Xa how (bE _ _ _ _) hkb,HK.I.2.2.trans (hkb.mono hsub)⟩
 clear how hkb hsub;obtain ⟨m0,m1,m2,m3,m4⟩:=HK.I.1.cells;have Mb:=Wz k.qn k.parts k.sa (m+(aF (fun _:pA=>3) k.fn:Nat)) W1 base HC.I.sC HC.I.parts (by omega) q1 HK.I.2.1.parts HK.I.2.1.mine (by
  obtain ⟨-,h2,-⟩:=Kf.1 HK.I.2.1.nodup;obtain ⟨h4,h5,h6⟩:=Kf.1 h2;obtain ⟨-,h8,-⟩:=Kf.1 h5;exact Kf.2 ⟨h4,h8,fun x hx y hy=>h6 x hx y (Ly _ hy)⟩)
 go_wp2_with fail;clear m0 m1 m2 m3 m4;refine Mb.mono ?_;clear Mb;rintro e W2 ⟨rfl,how,hkb⟩;have hsub: ∀ g∈blk k.qn ++ k.parts.flatMap af.Mc,g∈k.Mc:=fun g hg=>by
  rcases Kg.1 hg with hg | hg
  ·exact Ly _ (Lz _ hg)
  ·exact Ly _ (Ly _ (Ly _ hg))
 replace HK:Hid (Tk W2 w.heap.size k∧gp W2 base { k with fn:=aJ Wb (fun _=>3) m k.fn,parts:=aJ V9 V0 (m+(aF (fun _=>3) k.fn:Nat)) k.parts } ∧aI w W2 k.Mc):=⟨(hkb.same _ (J2.1 HK.I.1).1 fun hm=>HN.I (hsub _ hm)).trans HK.I.1,HK.I.2.1.WR how.1 (bE _ _ _ _) how.2 (Wc _ _) hkb,HK.I.2.2.trans (hkb.mono hsub)⟩
 clear how hkb hsub;obtain ⟨m0,m1,m2,m3,m4⟩:=HK.I.1.cells;have Mb:=WC k.qi k.eC k.tC (m+(aF (fun _:pA=>3) k.fn:Nat)+(aF V0 k.parts:Nat)) W2 base HC.I.w8 (by omega) q2 HK.I.2.1.eC;go_wp2_with fail;clear m0 m1 m2 m3 m4;refine Mb.mono ?_;clear Mb;rintro e W3 ⟨rfl,how,hkb⟩;have hsub: ∀ g∈blk k.qi,g∈k.Mc:=fun g hg=>Ly _ (Ly _ (Lz _ hg))
 replace HK:Hid (gp W3 base (WA m k)∧aI w W3 k.Mc):=⟨HK.I.2.1.WV how (bE _ _ _ _) hkb,HK.I.2.2.trans (hkb.mono hsub)⟩
 clear how hkb hsub;go_wp2;go_ret;exact ⟨ck (by unfold V8; omega),HK.I⟩
end
section
open Go.RowKit Go.Maps
def Zq (k:kd) (aw:Option Addr) (Y3:Nat) (p c:Value):Array Value:= #[.int .i64 k.now,.int .i64 k.major,.slice aw k.fn.length Y3,p,c]
structure Zt (w W3:World) (X lo:Nat) (k:kd) (aw:Option Addr) (Y3:Nat) (l:List (aZ × Nat)) (n:Nat) (I:List af) (Zj:Option Addr) (cp:Nat) (W:World):Prop where
 box:W.heap[X]? =some (.cells (Zq k aw Y3 (.slice Zj I.length cp) (.slice none 0 0)) 37 (0,0))
 pg:YR W3.heap.size lo I Zj cp W
 pure:I.map (·.pure)=(l.take n).map (·.1.pure)
 bl: ∀ q∈I,∀ g∈q.Mc,W3.heap.size≤g∨ ∃ p∈l.take n,g∈p.1.kids
 same: ∀ g,g < W3.heap.size→g≠X→W.heap[g]? =W3.heap[g]?
 cd:Below w.heap.size w W
 size:W3.heap.size≤W.heap.size
theorem Zt.len {w W3 W:World} {X lo n Y3 cp:Nat} {k:kd} {aw Zj:Option Addr} {l:List (aZ × Nat)} {I:List af} (h:Zt w W3 X lo k aw Y3 l n I Zj cp W):I.length≤n:=by
 have h1:=congrArg List.length h.pure;simp at h1;omega
theorem Zt.step {w W3 W W5:World} {X lo n Y3 cp:Nat} {k:kd} {aw Zj:Option Addr} {l:List (aZ × Nat)} {I:List af} {p:aZ × Nat} {r:af} (h:Zt w W3 X lo k aw Y3 l n I Zj cp W) (hp:l[n]? =some p)
  (hap:l.Pairwise fun p q=> ∀ g∈p.1.all p.2,∀ g'∈q.1.all q.2,g≠g') (hall: ∀ p∈l,∀ g∈p.1.all p.2,g < w.heap.size) (hX:w.heap.size≤X∧X < W3.heap.size) (hn:l.length≤6)
  (hr:ap W5 lo r) (gn:r.pure=p.1.pure) (hb:Below W.heap.size W W5) (hbl: ∀ g∈r.Mc,g∈p.1.kids∨W.heap.size≤g):
  ∃ a' cap' w',(Builtin.append_ #[34,34] 34 #[.slice Zj I.length cp,.slice (some ⟨W5.heap.size,0,none⟩) 1 1]).run J3 (W5.alloc (.cells r.cells 48))= .ok (.slice a' (I.length+1) cap') w'∧Below w.heap.size w w'∧w'.heap[X]? =some (.cells (Zq k aw Y3 (.slice Zj I.length cp) (.slice none 0 0)) 37 (0,0))∧Zt w W3 X lo k aw Y3 l (n+1) (I ++ [r]) a' cap' (w'.setCell ⟨X,3,none⟩ (.slice a' (I.length+1) cap')):=by
 have hlt:n < l.length:=(Lj.1 hp).1;have hlen:=h.len;have hsz:=h.size;have aaX:=hb.size;have hxl:X < W.heap.size:=by omega
 have bt: ∀ q∈l,∀ g∈q.1.kids,g∈q.1.all q.2:=fun q _ g hg=>LB _ (Ly _ hg)
 have hpm:p∈l:=KA hp;have hpd:p∈l.drop n:=by rw [List.drop_eq_getElem_cons hlt]; rw [Kz hlt] at hp; cases hp; exact List.mem_cons_self
 have hlow: ∀ g∈blk Zj,W3.heap.size≤g:=fun g hg=>(cf h.pg.own hg).1
 have hf: ∀ g∈r.Mc,g∉blk Zj ++ I.flatMap af.Mc:=fun g hg hm=>by
  rcases hbl g hg with hk | hk
  ·have h1:=hall p hpm g (bt p hpm g hk)
   rcases Kg.1 hm with hm | hm
   ·have:=hlow g hm; omega
   ·obtain ⟨q,hq,hgq⟩:=Rt.1 hm
    rcases h.bl q hq g hgq with h2 | ⟨q',hq',hg'⟩
    ·omega
    ·rw [← List.take_append_drop n l] at hap
     exact (List.pairwise_append.1 hap).2.2 q' hq' p hpd g (bt q' (RK hq') g hg') g (bt p hpm g hk) rfl
  ·have:=h.pg.lt g hm; omega
 obtain ⟨a',cap',w',h1,h2,h3,h4⟩:=aaw (h.pg.below hb) hr hf (by omega) (by omega);have hw':=h3.size;have lY:Below w.heap.size w w':=(h.cd.trans (hb.mono h.cd.size)).trans (h3.below (by have:=h.cd.size; omega) fun g hg=>by have:=hlow g hg; omega);have hsame: ∀ g,g < W3.heap.size→w'.heap[g]? =W.heap[g]? :=fun g hg=>(h3.same g (by omega) fun hm=>by have:=hlow g hm; omega).trans (hb.block g (by omega))
 have lD:w'.heap[X]? =some (.cells (Zq k aw Y3 (.slice Zj I.length cp) (.slice none 0 0)) 37 (0,0)):=(hsame X (by omega)).trans h.box;have hmore: ∀ q∈I ++ [r],∀ g∈q.Mc,W3.heap.size≤g∨ ∃ p∈l.take (n+1),g∈p.1.kids:=fun q hq g hg=>by
  rw [cj hp];rcases Kg.1 hq with hq | hq
  ·rcases h.bl q hq g hg with h5 | ⟨q',h5,h6⟩
   ·exact .inl h5
   ·exact .inr ⟨q',Lz _ h5,h6⟩
  ·rw [KB.1 hq] at hg
   rcases hbl g hg with h5 | h5
   ·exact .inr ⟨p,Ly _ (KB.2 rfl),h5⟩
   ·exact .inl (by omega)
 refine ⟨a',cap',w',h1,lY,lD,?_,h2.same fun g hg=>Go.Deep.blk_setCell_other _ _ _ _ ?_,?_,hmore,fun g hg hx=>(Go.Deep.blk_setCell_other _ _ _ _ hx).trans ((hsame g hg).trans (h.same g hg hx)),lY.setCell hX.1 _,?_⟩
 ·rw [List.length_append,List.length_singleton]
  exact K7 _ _ _ _ _ _ lD
 ·show g≠X
  rcases Kg.1 hg with hg | hg
  ·have:=(cf h2.own hg).1; omega
  ·obtain ⟨q,hq,hgq⟩:=Rt.1 hg
   rcases hmore q hq g hgq with h5 | ⟨q',h5,h6⟩
   ·omega
   ·have hm':=RK h5
    have:=hall q' hm' g (bt q' hm' g h6)
    omega
 ·rw [cj hp,Kl,Kl,h.pure,List.map_singleton,List.map_singleton,gn]
 ·simp [World.setCell]; omega
end
section
open Go.RowKit Go.Maps
attribute [local go_sem ↓] Kc Kd
theorem xX {z:Int} (h:cv z 1 1000=true):(Lit.int .i64 z).wf=true:=by
 have h2:=bz.1 h;have e1:IntKind.min .i64≤0:=by decide
 have e2:100000≤IntKind.max .i64:=by decide
 simp only [Lit.wf,Bool.and_eq_true,decide_eq_true_eq];omega
theorem iB {S:aZ} (h:aQ S.pure):S.Fits:=by
 refine ⟨?_,?_,?_,?_,?_,?_,?_,?_,?_,?_,?_,?_⟩
 ·have h5:=h.dl
  have h6:S.pure.L8.length=S.lp.length:=by simp [aZ.pure]
  omega
 ·intro p hp
  obtain ⟨r,hr,rfl⟩:=Lr.1 hp;exact xX (cK h.L8 (r.1.toaD) (Lr.2 ⟨r,hr,rfl⟩)).1
 ·have h5:=h.fx
  have h6:S.pure.aj.length=S.ls.length:=by simp [aZ.pure]
  omega
 ·intro p hp
  obtain ⟨r,hr,rfl⟩:=Lr.1 hp;exact xX (cK h.aj (r.1) (Lr.2 ⟨r,hr,rfl⟩)).1
 ·have h5:=h.cD
  have h6:S.pure.L9.length=S.le.length:=by simp [aZ.pure]
  omega
 ·intro p hp
  obtain ⟨r,hr,rfl⟩:=Lr.1 hp;exact xX (cK h.L9 (r.1) (Lr.2 ⟨r,hr,rfl⟩)).1
 ·have h5:=h.cC
  have h6:S.pure.ag.length=S.lb.length:=by simp [aZ.pure]
  omega
 ·intro p hp
  obtain ⟨r,hr,rfl⟩:=Lr.1 hp;exact xX (cK h.ag (r.1) (Lr.2 ⟨r,hr,rfl⟩)).1
 ·have h5:=h.cb
  have h6:S.pure.ae.length=S.lf.length:=by simp [aZ.pure]
  omega
 ·intro p hp
  obtain ⟨r,hr,rfl⟩:=Lr.1 hp;exact xX (cK h.ae (r.1.toci) (Lr.2 ⟨r,hr,rfl⟩)).1
 ·have h5:=h.dH
  have h6:S.pure.ai.length=S.lq.length:=by simp [aZ.pure]
  omega
 ·intro p hp
  obtain ⟨r,hr,rfl⟩:=Lr.1 hp;exact xX (cK h.ai (r.1.todS) (Lr.2 ⟨r,hr,rfl⟩)).1
end
section
open Go.RowKit Go.Maps
theorem aa8:(Tryz.prog.info? 80).map (fun i=>(i.zero,i.size,i.bytes))=some (some (.agg #[.int .i64 0,.int .i64 0,.int .i64 0,.int .i64 0]),4,32):=by kernel_rfl
structure aaI (w W4:World) (X:Nat) (k:kd) (aw:Option Addr) (Y3:Nat) (pv:Value) (ls:List gi) (n:Nat) (ac:Option Addr) (cc:Nat) (W:World):Prop where
 box:W.heap[X]? =some (.cells (Zq k aw Y3 pv (.slice ac n cc)) 37 (0,0))
 own:W.ownsRow W4.heap.size 80 4 (.slice ac n cc) n (hM.flat ((ls.take n).map (·.c)))
 same: ∀ g,g < W4.heap.size→g≠X→W.heap[g]? =W4.heap[g]?
 cd:Below w.heap.size w W
 size:W4.heap.size≤W.heap.size
theorem aaI.step {w W4 W W5:World} {X n Y3 cc:Nat} {k:kd} {aw ac:Option Addr} {pv:Value} {ls:List gi} {m:gi} (h:aaI w W4 X k aw Y3 pv ls n ac cc W) (hm:ls[n]? =some m) (hX:w.heap.size≤X∧X < W4.heap.size) (hn:ls.length≤10) (hb:Below W.heap.size W W5):
  ∃ a' cap' w',(Builtin.append_ #[35,35] 35 #[.slice ac n cc,.slice (some ⟨W5.heap.size,0,none⟩) 1 1]).run J3 (W5.alloc (.cells (nx m.c) 80))= .ok (.slice a' (n+1) cap') w'∧w'.heap[X]? =some (.cells (Zq k aw Y3 pv (.slice ac n cc)) 37 (0,0))∧aaI w W4 X k aw Y3 pv ls (n+1) a' cap' (w'.setCell ⟨X,4,none⟩ (.slice a' (n+1) cap')):=by
 have hlt:n < ls.length:=(Lj.1 hm).1;have hsz:=h.size;have aaX:=hb.size;have hlow: ∀ g∈blk ac,W4.heap.size≤g:=fun g hg=>(cf h.own hg).1
 obtain ⟨a',cap',w',h1,h2,h3,h4⟩:=aad Tryz.underlying35 aa8 rfl (by decide) (by decide) (nx m.c) rfl (fun u hu=>by
  simp only [List.mem_cons,List.not_mem_nil,or_false] at hu;rcases hu with rfl | rfl | rfl | rfl <;> rfl) (cR h.own hb) (by omega) (by omega)
 have hw':=h3.size;have lY:Below w.heap.size w w':=(h.cd.trans (hb.mono h.cd.size)).trans (h3.below (by have:=h.cd.size; omega) fun g hg=>by have:=hlow g hg; omega);have hsame: ∀ g,g < W4.heap.size→w'.heap[g]? =W.heap[g]? :=fun g hg=>(h3.same g (by omega) fun hm=>by have:=hlow g hm; omega).trans (hb.block g (by omega))
 have lD:=(hsame X (by omega)).trans h.box;refine ⟨a',cap',w',h1,lD,K7 _ _ _ _ _ _ lD,?_,fun g hg hx=>(Go.Deep.blk_setCell_other _ _ _ _ hx).trans ((hsame g hg).trans (h.same g hg hx)),lY.setCell hX.1 _,?_⟩
 ·have e:hM.flat ((ls.take (n+1)).map (·.c))=hM.flat ((ls.take n).map (·.c)) ++ (nx m.c).toList:=by
   rw [cj hm,Kl,hM.dc];simp [Kind.flat,hM,Vg]
  rw [e];exact aL h2 fun g hg=>Go.Deep.blk_setCell_other _ _ _ _ (by have:=(cf h2 hg).1; show g≠X; omega)
 ·simp [World.setCell]; omega
end
section
open Go.RowKit
attribute [local go_sem ↓] Kc Kd
def Wj (W:World) (X b:Nat) (k:eA):Prop:=Tk W X k∧gp W b k
section
variable {p q:af} {k:eA} {w W U V:World} {B X b:Nat} {bs:List Nat}
theorem Wj.below (h:Wj U X b k) (hb:Below U.heap.size U V):Wj V X b k:=⟨(hb.block _ (J2.1 h.1).1).trans h.1,h.2.below hb⟩
theorem dg.kept (h:dg w k U) (hk:aI U V bs) (hs: ∀ g∈bs,w.heap.size < g):dg w k V:=⟨(hk.same _ (J2.1 h.src).1 fun hm=>by have:=hs _ hm; omega).trans h.src,h.cd.trans (hk.below h.cd.size fun g hg=>by have:=hs g hg; omega)⟩
theorem WI (h:Hid (dg w k U)) (hb:Below U.heap.size U V):Hid (dg w k V):=h.I.below hb
theorem ZD (h:Hid (Wj U X b k)) (hb:Below U.heap.size U V):Hid (Wj V X b k):=h.I.below hb
end
def kd.total (k:kd):Nat:=k.fn.length+(k.parts.length+g9 aE.total k.parts)+k.eC.length
theorem WQ (k:eA):k.fn.length+(k.parts.length+g9 (fun x:af=>x.pure.total) k.parts)+k.eC.length=k.pure.total:=by
 simp [kd.total,eA.pure,g9,List.map_map,Ls]
theorem Wu: ∀ l:List af,aF V0 l≤11 * (l.length+g9 (fun x:af=>x.pure.total) l)
 | [] =>by simp [aF]
 | x :: r=>by
  have h1:=Wu r;have h2:V0 x=2+fb x:=rfl;have h3:=Wy x;simp only [aF,List.length_cons,g9,List.map_cons,List.sum_cons] at h1 ⊢;omega
theorem WH (k:eA):V8 k≤11 * k.pure.total:=by
 rw [← WQ];unfold V8;have h1:=Wu k.parts;have h2:aF (fun _:pA=>3) k.fn=k.fn.length * 3:=kr (fun _=>rfl) _;have h3:aF (fun _:eQ=>4) k.eC=k.eC.length * 4:=kr (fun _=>rfl) _;omega
theorem WK {k:eA} (h:k.pure.Small):k.WN:=⟨h.Ts,by simpa [eA.pure] using h.sC,h.w8,fun p hp=>Wh (pC h hp)⟩
theorem aal (a:Option Addr) (l:List af) (cap:Nat) (k:Int) (w:World) (hl:l.length≤1048576) (hc: ∀ p∈l,p.WN) (h0:1≤k) (h1:k+(aF V0 l:Nat)≤90000000) (hr:kp.bU w a (aJ V9 V0 k l)):
  Calls J3 74 #[.slice a l.length cap,.int .i64 k] w fun e w'=>e= .returned (.int .i64 (k+(aF V0 l:Nat)))∧Below w.heap.size w w':=by
 have HR:Hid (kp.bU w a (aJ V9 V0 k l)∧k+(aF V0 l:Nat)≤90000000∧ ∀ p∈l,p.WN):=⟨hr,h1,hc⟩
 clear hr h1 hc
 go_enter Tryz.func74,Tryz.ntmps74
 go_wp2_with fail
 go_loopw [1,5] (fun q i wr=> ∃ (j:Nat) (m:Int),j≤l.length∧i= .int .i64 j∧q= .int .i64 m∧1≤m∧m≤90000000∧Hid (m=k+(aF V0 (l.take j):Nat)∧Below w.heap.size w wr)) (fun _ i _=>l.length - (Go.RowKit.intOf i).toNat)
 case atStart=>exact ⟨0,k,Nat.zero_le _,rfl,rfl,h0,by have:=HR.I.2.1; omega,⟨by simp [aF],Kp _ _⟩⟩
 case round=>
  obtain ⟨j,m,hj,rfl,rfl,m0,m1,HA⟩:=hrel;by_cases hlt:j < l.length
  ·have i0:(0:Int)≤(j:Int):=by omega
   have i1:(j:Int) < (l.length:Int):=by omega
   obtain ⟨x,hx⟩: ∃ x,l[j]? =some x:=⟨_,Kz hlt⟩
   have qw:=du (c:=V0) hx;have hup:=gK (c:=V0) hx;have hg:=jK (f:=V9) (c:=V0) (k:=k) hx;rw [← HA.I.1] at hg;obtain ⟨p,hp⟩: ∃ p:af,p= { x with id:=m,next:=m+1 } :=⟨_,rfl⟩
   have Vu:fb p=fb x:=by rw [hp]; rfl
   have hcx:V0 x=2+fb x:=rfl;have hmp:V9 m x=nF (m+1+1) p:=by rw [hp]; rfl
   rw [hmp] at hg;obtain ⟨gs,ha,-,-⟩:=ic (HR.I.1.below HA.I.2) hg;have HC:Hid (∀ W,Below w.heap.size w W→(W.cell? ⟨gs,j * 8,none⟩=some (.int .i64 m)∧W.cell? ⟨gs,j * 8+1,none⟩=some (.int .i64 (m+1))∧W.cell? ⟨gs,j * 8+2,none⟩=some (.slice p.aN p.L8.length p.aW)∧W.cell? ⟨gs,j * 8+3,none⟩=some (.slice p.bc p.aj.length p.bF)∧W.cell? ⟨gs,j * 8+4,none⟩=some (.slice p.ay p.L9.length p.aO)∧W.cell? ⟨gs,j * 8+5,none⟩=some (.slice p.ax p.ag.length p.aP)∧W.cell? ⟨gs,j * 8+6,none⟩=some (.slice p.am p.ae.length p.aG)∧W.cell? ⟨gs,j * 8+7,none⟩=some (.slice p.aK p.ai.length p.aV))∧af.At W (nF (m+1+1) p)):=fun W hW=>by
    obtain ⟨g2,e2,hin,hat⟩:=ic (HR.I.1.below hW) hg;cases ha.symm.trans e2;refine ⟨?_,hat⟩;obtain ⟨h0,h1,h2,h3,h4,h5,h6,h7⟩:=hin;simp only [nF,bE] at h0 h1 h2 h3 h4 h5 h6 h7;exact ⟨by rw [h0,hp],by rw [h1,hp],h2,h3,h4,h5,h6,h7⟩
   have HX:Hid (m+2+(fb p:Nat)=k+(aF V0 (l.take (j+1)):Nat)):=by have:=HA.I.1; show _=_; omega
   have h2:m+1+1+(fb p:Nat)≤90000000:=by have:=HR.I.2.1; have:=HA.I.1; omega
   have WM:Hid p.WN:=by show p.WN; rw [hp]; have:=HR.I.2.2 x (KA hx); exact ⟨this.1,this.2,this.3,this.4,this.5,this.6,this.7,this.8,this.9⟩
   subst ha;clear hx qw hup hg Vu hcx hmp hp;have S:=aA HA.I.2;have n0:(m != m)=false:=by simp
   have n1:(m+1 != m+1)=false:=by simp
   have q0:1≤m+1+1∧m+1+1+(aF bj p.L8:Nat)≤90000000:=by have:=h2; unfold fb at this; omega
   have q1:1≤m+1+1+(aF bj p.L8:Nat)∧m+1+1+(aF bj p.L8:Nat)+(aF (fun _=>3) p.aj:Nat)≤90000000:=by have:=h2; unfold fb at this; omega
   have q2:1≤m+1+1+(aF bj p.L8:Nat)+(aF (fun _=>3) p.aj:Nat)∧m+1+1+(aF bj p.L8:Nat)+(aF (fun _=>3) p.aj:Nat)+(aF (fun _=>2) p.L9:Nat)≤90000000:=by have:=h2; unfold fb at this; omega
   have q3:1≤m+1+1+(aF bj p.L8:Nat)+(aF (fun _=>3) p.aj:Nat)+(aF (fun _=>2) p.L9:Nat)∧m+1+1+(aF bj p.L8:Nat)+(aF (fun _=>3) p.aj:Nat)+(aF (fun _=>2) p.L9:Nat)+(aF (fun _=>3) p.ag:Nat)≤90000000:=by have:=h2; unfold fb at this; omega
   have q4:1≤m+1+1+(aF bj p.L8:Nat)+(aF (fun _=>3) p.aj:Nat)+(aF (fun _=>2) p.L9:Nat)+(aF (fun _=>3) p.ag:Nat)∧m+1+1+(aF bj p.L8:Nat)+(aF (fun _=>3) p.aj:Nat)+(aF (fun _=>2) p.L9:Nat)+(aF (fun _=>3) p.ag:Nat)+(aF bN p.ae:Nat)≤90000000:=by have:=h2; unfold fb at this; omega
   have q5:1≤m+1+1+(aF bj p.L8:Nat)+(aF (fun _=>3) p.aj:Nat)+(aF (fun _=>2) p.L9:Nat)+(aF (fun _=>3) p.ag:Nat)+(aF bN p.ae:Nat)∧m+1+1+(aF bj p.L8:Nat)+(aF (fun _=>3) p.aj:Nat)+(aF (fun _=>2) p.L9:Nat)+(aF (fun _=>3) p.ag:Nat)+(aF bN p.ae:Nat)+(aF eo p.ai:Nat)≤90000000:=by have:=h2; unfold fb at this; omega
   obtain ⟨⟨c0,c1,c2,c3,c4,c5,c6,c7⟩,hat⟩:=HC.I wr S.I;have Mb:=AZ p.aN p.L8 p.aW (m+1+1) wr WM.I.dl WM.I.L8 q0.1 q0.2 hat.1;clear hat;go_wp2_with fail;clear c0 c1 c2 c3 c4 c5 c6 c7;refine Mb.mono ?_;clear Mb;rintro e W1 ⟨rfl,hb⟩;replace S:=aA (S.I.trans (hb.mono S.I.size));clear hb;have nn1: ¬ m+1+1+(aF bj p.L8:Nat) < 0:=by omega
   obtain ⟨⟨c0,c1,c2,c3,c4,c5,c6,c7⟩,hat⟩:=HC.I W1 S.I;have Mb:=Cn p.bc p.aj p.bF (m+1+1+(aF bj p.L8:Nat)) W1 WM.I.fx q1.1 q1.2 hat.2.1;clear hat;go_wp2_with fail;clear c0 c1 c2 c3 c4 c5 c6 c7 nn1;refine Mb.mono ?_;clear Mb;rintro e W2 ⟨rfl,hb⟩;replace S:=aA (S.I.trans (hb.mono S.I.size));clear hb;have nn2: ¬ m+1+1+(aF bj p.L8:Nat)+(aF (fun _=>3) p.aj:Nat) < 0:=by omega
   obtain ⟨⟨c0,c1,c2,c3,c4,c5,c6,c7⟩,hat⟩:=HC.I W2 S.I;have Mb:=yb p.ay p.L9 p.aO (m+1+1+(aF bj p.L8:Nat)+(aF (fun _=>3) p.aj:Nat)) W2 WM.I.cD q2.1 q2.2 hat.2.2.1;clear hat;go_wp2_with fail;clear c0 c1 c2 c3 c4 c5 c6 c7 nn2;refine Mb.mono ?_;clear Mb;rintro e W3 ⟨rfl,hb⟩;replace S:=aA (S.I.trans (hb.mono S.I.size));clear hb;have nn3: ¬ m+1+1+(aF bj p.L8:Nat)+(aF (fun _=>3) p.aj:Nat)+(aF (fun _=>2) p.L9:Nat) < 0:=by omega
   obtain ⟨⟨c0,c1,c2,c3,c4,c5,c6,c7⟩,hat⟩:=HC.I W3 S.I;have Mb:=yF p.ax p.ag p.aP (m+1+1+(aF bj p.L8:Nat)+(aF (fun _=>3) p.aj:Nat)+(aF (fun _=>2) p.L9:Nat)) W3 WM.I.cC q3.1 q3.2 hat.2.2.2.1;clear hat;go_wp2_with fail;clear c0 c1 c2 c3 c4 c5 c6 c7 nn3;refine Mb.mono ?_;clear Mb;rintro e W4 ⟨rfl,hb⟩;replace S:=aA (S.I.trans (hb.mono S.I.size));clear hb;have nn4: ¬ m+1+1+(aF bj p.L8:Nat)+(aF (fun _=>3) p.aj:Nat)+(aF (fun _=>2) p.L9:Nat)+(aF (fun _=>3) p.ag:Nat) < 0:=by omega
   obtain ⟨⟨c0,c1,c2,c3,c4,c5,c6,c7⟩,hat⟩:=HC.I W4 S.I;have Mb:=wy p.am p.ae p.aG (m+1+1+(aF bj p.L8:Nat)+(aF (fun _=>3) p.aj:Nat)+(aF (fun _=>2) p.L9:Nat)+(aF (fun _=>3) p.ag:Nat)) W4 WM.I.cb WM.I.ae q4.1 q4.2 hat.2.2.2.2.1;clear hat;go_wp2_with fail;clear c0 c1 c2 c3 c4 c5 c6 c7 nn4;refine Mb.mono ?_;clear Mb;rintro e W5 ⟨rfl,hb⟩;replace S:=aA (S.I.trans (hb.mono S.I.size));clear hb;have nn5: ¬ m+1+1+(aF bj p.L8:Nat)+(aF (fun _=>3) p.aj:Nat)+(aF (fun _=>2) p.L9:Nat)+(aF (fun _=>3) p.ag:Nat)+(aF bN p.ae:Nat) < 0:=by omega
   obtain ⟨⟨c0,c1,c2,c3,c4,c5,c6,c7⟩,hat⟩:=HC.I W5 S.I;have Mb:=Ah p.aK p.ai p.aV (m+1+1+(aF bj p.L8:Nat)+(aF (fun _=>3) p.aj:Nat)+(aF (fun _=>2) p.L9:Nat)+(aF (fun _=>3) p.ag:Nat)+(aF bN p.ae:Nat)) W5 WM.I.dH WM.I.ai q5.1 q5.2 hat.2.2.2.2.2;clear hat;go_wp2_with fail;clear c0 c1 c2 c3 c4 c5 c6 c7 nn5;refine Mb.mono ?_;clear Mb;rintro e W6 ⟨rfl,hb⟩;replace S:=aA (S.I.trans (hb.mono S.I.size));clear hb;have nn6: ¬ m+1+1+(aF bj p.L8:Nat)+(aF (fun _=>3) p.aj:Nat)+(aF (fun _=>2) p.L9:Nat)+(aF (fun _=>3) p.ag:Nat)+(aF bN p.ae:Nat)+(aF eo p.ai:Nat) < 0:=by omega
   have HN:Hid (m+2+(fb p:Nat)=m+1+1+(aF bj p.L8:Nat)+(aF (fun _=>3) p.aj:Nat)+(aF (fun _=>2) p.L9:Nat)+(aF (fun _=>3) p.ag:Nat)+(aF bN p.ae:Nat)+(aF eo p.ai:Nat)):=by show _=_; unfold fb; omega
   go_wp2;go_roundw
   case rel=>exact ⟨j+1,m+1+1+(aF bj p.L8:Nat)+(aF (fun _=>3) p.aj:Nat)+(aF (fun _=>2) p.L9:Nat)+(aF (fun _=>3) p.ag:Nat)+(aF bN p.ae:Nat)+(aF eo p.ai:Nat),by omega,by go_num,by go_num,by omega,by omega,⟨by rw [← HN.I]; exact HX.I,S.I⟩⟩
   case measure=>simp [Go.RowKit.intOf]; omega
  ·have i1: ¬ (j:Int) < (l.length:Int):=by omega
   have HE:Hid (m=k+(aF V0 l:Nat)):=by have h6:=HA.I.1; rw [List.take_of_length_le (by omega)] at h6; exact h6
   go_wp2;go_ret;exact ⟨ck HE.I,HA.I.2⟩
theorem aau (major:Int) (a:Option Addr) (l:List pA) (cap:Nat) (k:Int) (w:World) (hl:l.length≤1048576) (h0:1≤k) (h1:k+(aF (fun _=>3) l:Nat)≤90000000) (hr:jq.bU w a (aJ Wb (fun _=>3) k l)):
  Calls J3 73 #[.agg #[.int .i64 major,.slice a l.length cap],.int .i64 k] w fun e w'=>e= .returned (.int .i64 (k+(aF (fun _=>3) l:Nat)))∧Below w.heap.size w w':=by
 have hz:Below w.heap.size w (w.alloc (.cells #[.int .i64 major,.slice a l.length cap] 33)):=(Kp _ _).alloc (Ki _) _;have Mb:=aay a l cap k (w.alloc (.cells #[.int .i64 major,.slice a l.length cap] 33)) hl h0 h1 (hr.below hz);have HZ:=aA hz;have nn: ¬ k+(aF (fun _:pA=>3) l:Nat) < 0:=by omega
 clear hr hz
 go_enter Tryz.func73,Tryz.ntmps73
 go_wp2_with fail;refine Mb.mono ?_;clear Mb;rintro e W1 ⟨rfl,hb⟩;have HY:=aA (HZ.I.trans (hb.mono HZ.I.size));clear hb;go_wp2;go_ret;exact ⟨rfl,HY.I⟩
theorem ZK (k:eA) (m:Int) (w:World) (hc:k.WN) (h0:1≤m) (h1:m+(V8 k:Nat)≤90000000) (ho:eA.At w (WA m k)):
  Calls J3 21 #[.agg k.row,.int .i64 m] w fun e w'=>e= .returned (.int .i64 (m+(V8 k:Nat)))∧Below w.heap.size w w':=by
 have hz:Below w.heap.size w (w.alloc (.cells k.row 37)):=(Kp _ _).alloc (Ki _) _;have HK:Hid (Tk (w.alloc (.cells k.row 37)) w.heap.size k∧eA.At (w.alloc (.cells k.row 37)) (WA m k)∧Below w.heap.size w (w.alloc (.cells k.row 37))):=⟨Kj _ _,ho.below hz,hz⟩
 have HC:=aA hc;have q0:m+(aF (fun _:pA=>3) k.fn:Nat)≤90000000:=by unfold V8 at h1; omega
 have q1:m+(aF (fun _:pA=>3) k.fn:Nat)+(aF V0 k.parts:Nat)≤90000000:=by unfold V8 at h1; omega
 have q2:m+(aF (fun _:pA=>3) k.fn:Nat)+(aF V0 k.parts:Nat)+(aF (fun _:eQ=>4) k.eC:Nat)≤90000000:=by unfold V8 at h1; omega
 have n0: ¬ m+(aF (fun _:pA=>3) k.fn:Nat) < 0:=by omega
 have n1: ¬ m+(aF (fun _:pA=>3) k.fn:Nat)+(aF V0 k.parts:Nat) < 0:=by omega
 have n2: ¬ m+(aF (fun _:pA=>3) k.fn:Nat)+(aF V0 k.parts:Nat)+(aF (fun _:eQ=>4) k.eC:Nat) < 0:=by omega
 clear hc ho hz h1
 go_enter Tryz.func21,Tryz.ntmps21
 go_upto_region 1 with fail;generalize w.alloc (.cells k.row 37)=W0 at *;obtain ⟨m0,m1,m2,m3,m4⟩:=HK.I.1.cells;have Mb:=aau k.major k.vb k.fn k.Te m W0 HC.I.Ts h0 q0 HK.I.2.1.fn;go_wp2_with fail;clear m0 m1 m2 m3 m4;refine Mb.mono ?_;clear Mb;rintro e W1 ⟨rfl,hb⟩;replace HK:Hid (Tk W1 w.heap.size k∧eA.At W1 (WA m k)∧Below w.heap.size w W1):=⟨(hb.block _ (J2.1 HK.I.1).1).trans HK.I.1,HK.I.2.1.below hb,HK.I.2.2.trans (hb.mono HK.I.2.2.size)⟩
 clear hb;obtain ⟨m0,m1,m2,m3,m4⟩:=HK.I.1.cells;have Mb:=aal k.qn k.parts k.sa (m+(aF (fun _:pA=>3) k.fn:Nat)) W1 HC.I.sC HC.I.parts (by omega) q1 HK.I.2.1.parts;go_wp2_with fail;clear m0 m1 m2 m3 m4 n0;refine Mb.mono ?_;clear Mb;rintro e W2 ⟨rfl,hb⟩;replace HK:Hid (Tk W2 w.heap.size k∧eA.At W2 (WA m k)∧Below w.heap.size w W2):=⟨(hb.block _ (J2.1 HK.I.1).1).trans HK.I.1,HK.I.2.1.below hb,HK.I.2.2.trans (hb.mono HK.I.2.2.size)⟩
 clear hb;obtain ⟨m0,m1,m2,m3,m4⟩:=HK.I.1.cells;have Mb:=Xd k.qi k.eC k.tC (m+(aF (fun _:pA=>3) k.fn:Nat)+(aF V0 k.parts:Nat)) W2 HC.I.w8 (by omega) q2 HK.I.2.1.eC;go_wp2_with fail;clear m0 m1 m2 m3 m4 n1;refine Mb.mono ?_;clear Mb;rintro e W3 ⟨rfl,hb⟩;have HY:=aA (HK.I.2.2.trans (hb.mono HK.I.2.2.size));clear hb;go_wp2;go_ret;exact ⟨ck (by unfold V8; omega),HY.I⟩
end
end Go.Proofs.YteidkehoekbcaaaGreat
