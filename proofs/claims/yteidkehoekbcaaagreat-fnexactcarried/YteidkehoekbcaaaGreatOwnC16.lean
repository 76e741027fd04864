/- What the proof leans on, part 16. -/
import Derived.Test.YteidkehoekbcaaaGreatOwnC15
set_option maxRecDepth 100000
set_option maxHeartbeats 8000000
open Bool renaming and_eq_true->J7
open Go renaming wpAnyH_ready->KW,wp_region_held_drew->Kr
open Go.AllReadyH renaming cons->KX,nil->KY
open Go.Proofs.Tryz renaming prog->J3
open List renaming getElem?_eq_some_iff->Lj,getElem_cons_succ->K1,getElem_cons_zero->K0,getElem_toArray->KZ,length_map->KG,map_append->Kl,mem_append->Kg,mem_append_left->Lz,mem_append_right->Ly,mem_cons->Kt,mem_filterMap->Lq,mem_flatMap->Rt,nodup_append->Kf,not_mem_nil->Ku,take_append_drop->Qn
open Nat renaming le_refl->Ki
open Option renaming map_some->J9
open Option.some renaming injEq->LF

namespace Go.Proofs.YteidkehoekbcaaaGreat
section
open Go.RowKit Go.Maps
def ld (w:World) (a:Option Addr) (xs:List Value):Prop:= ∀ j u,xs[j]? =some u→ ∃ ad,a=some ad∧w.cell? (ad.add j)=some u
theorem ld.nil {w:World} {a:Option Addr} :ld w a [] :=fun j u hu=>by cases hu
theorem ld.none {w:World} {xs:List Value} (h:ld w none xs):xs= [] :=by
 cases xs with
 | nil=>rfl
 | cons u r=>
  obtain ⟨ad,e,_⟩:=h 0 u rfl;cases e
theorem jD {P:Program} (w:World) (base:Nat) (t ty e:TypeId) (i:TypeInfo) (z:Value) (size bytes:Nat) (ht:P.underlying t=some (.slice e)) (hi:P.info? e=some i) (hz:i.zero=some z)
  (hsize:i.size=size) (hby:i.bytes=bytes) (hzs:z.cells.size=size) (hsz:0 < size) (a0:Option Addr) (n0 c0:Nat) (ys:List Value) (ho:w.ownsRow base e size (.slice a0 n0 c0) n0 ys)
  (a:Option Addr) (n cap:Nat) (xs:List Value) (h:ld w a xs) (hl:xs.length=n * size) (h1: ∀ u∈xs,u.oneCell'=true) (h63:n0+n≤4000000) (hb:bytes≤1000) (lY:base≤w.heap.size):
  ∃ a' cap' w',(Builtin.append_ #[t,t] ty #[.slice a0 n0 c0,.slice a n cap]).run P w= .ok (.slice a' (n0+n) cap') w'∧w'.ownsRow base e size (.slice a' (n0+n) cap') (n0+n) (ys ++ xs)∧w.grownBy w' (Value.slice a0 n0 c0).ownBlock∧ ∀ g∈blk a',g∈blk a0∨g=w.heap.size:=by
 cases a with
 | none=>
  have hx:=h.none;subst hx;have hn:n=0:=by
   cases n with
   | zero=>rfl
   | succ n=>simp only [List.length_nil,Nat.succ_mul] at hl; omega
  subst hn;refine ⟨a0,c0,w,?_,by simpa using ho,⟨rfl,rfl,rfl,Ki _,fun _ _ _=>rfl⟩,fun g hg=> .inl hg⟩;have hc:n0≤c0:=by
   obtain ⟨-,⟨e1,e2⟩ | ⟨g,c,cur,e1,-,-,h5,-⟩⟩:=ho
   ·cases e1; exact Ki _
   ·cases e1; exact h5
  cases a0 <;> simp [Builtin.append_,run_underlying ht,sizeOf,typeInfo,hi,Builtin.lenOf,Builtin.firstCells,storeCells,hc]
 | some ad=>
  have hnews: ∀ j u,xs[j]? =some u→w.cell? (ad.add j)=some u:=fun j u hu=>by
   obtain ⟨ad',e',hc⟩:=h j u hu;cases e';exact hc
  obtain ⟨v',w',hr,ho',hgr,-,hbl⟩:=run_append_own_at (P:=P) w base t ty e i z size bytes ht hi hz hsize hby hzs hsz (.slice a0 n0 c0) n0 ys ho ad n cap xs hl hnews h1 (by unfold maxLen; omega) (by have:=Nat.mul_le_mul h63 hb; omega) lY;obtain ⟨a',cap',rfl,-⟩:=cr ho';refine ⟨a',cap',w',hr,ho',hgr,fun g hg=> ?_⟩;rw [fZ] at hg ⊢;cases a' with
  | none=>cases hg
  | some ad'=>
   simp only [J9,LF] at hg;subst hg;rcases hbl with hbl | hbl
   ·refine .inl ?_
    cases a0 with
    | none=>cases hbl
    | some ad0=>simpa [Value.ownBlock] using hbl.symm
   ·exact .inr (by simpa [Value.ownBlock] using hbl)
theorem Hj (g m j:Nat):(⟨g,m,none⟩:Addr).add j=⟨g,m+j,none⟩:=by unfold Addr.add; split <;> simp_all
theorem FH {α:Type} {K:Kind α} {w:World} {a:Option Addr} {l:List α} (k:Nat) (h:Row w a (K.flat l)):ld w (a.map (·.add (k * K.n))) (K.flat (l.drop k)):=fun j u hu=>by
 by_cases hk:k≤l.length
 ·have e:K.flat l=K.flat (l.take k) ++ K.flat (l.drop k):=by rw [← K.dc,Qn]
  have hl:(K.flat (l.take k)).length=k * K.n:=by rw [K.dM,List.length_take,Nat.min_eq_left hk]
  have hu2:(K.flat l)[k * K.n+j]? =some u:=by
   rw [e,List.getElem?_append_right (by omega),hl,Nat.add_sub_cancel_left];exact hu
  obtain ⟨g,rfl,hc⟩:=h _ u hu2;exact ⟨⟨g,k * K.n,none⟩,by rw [J9,qZ],by rw [Hj]; exact hc⟩
 ·rw [List.drop_eq_nil_of_le (by omega)] at hu
  cases hu
theorem IS {w:World} {a:Option Addr} {xs:List Value} (h:Row w a xs):ld w a xs:=fun j u hu=>by
 obtain ⟨g,rfl,hc⟩:=h j u hu;exact ⟨_,rfl,by rw [qZ]; exact hc⟩
theorem uM {α:Type} {K:Kind α} {w:World} {a:Option Addr} {l:List α} (k:Nat) (h:Row w a (K.flat l)):ld w a (K.flat (l.take k)):=fun j u hu=>by
 have e:K.flat l=K.flat (l.take k) ++ K.flat (l.drop k):=by rw [← K.dc,Qn]
 have hu2:(K.flat l)[j]? =some u:=by
  rw [e,List.getElem?_append_left (Lj.1 hu).1];exact hu
 exact IS h j u hu2
theorem ja {w:World} {o i:Nat} {v:Value} :(w.setCell ⟨o,i,none⟩ v).heap.size=w.heap.size:=fH [v]
theorem qK {α:Type} {K:Kind α} {w:World} {a:Option Addr} {l:List α} {k c:Nat} (hk:l.length≤c) (h:Row w a (K.flat l)):ld w (if c=k then a else Option.map (fun x=>x.add (k * K.n)) a) (K.flat (l.drop k)):=by
 split
 ·rw [List.drop_eq_nil_of_le (by omega)]
  exact ld.nil
 ·exact FH k h
end
section
open Go.RowKit Go.Maps
attribute [local go_sem ↓] Go.wp_at_zero Go.wp_at_succ
def aac (k:eA) (B:Nat) (b0 d0 f b1 d1 b3 e:Bool) (g0 g1 o:Nat) (a0 a1:Option Addr) (c0 c1:Nat):Act:=⟨#[.agg k.row,.pointer (some ⟨B,0,none⟩),.pointer (some ⟨(B+1),0,none⟩),bif b3 then .pointer (some ⟨o,0,none⟩) else undef,undef,.pointer (some ⟨B,0,none⟩),.int .i64 k.now,.pointer (some ⟨B,1,none⟩),.pointer (some ⟨B,1,none⟩),.int .i64 k.major,bif b0 then .slice (some ⟨g0,0,none⟩) 0 0 else undef,.pointer (some ⟨B,1,none⟩),.pointer (some ⟨B,2,none⟩),.slice k.vb k.fn.length k.Te,bif d0 then .slice a0 k.fn.length c0 else undef,bif f then .agg #[.int .i64 k.major,.slice a0 k.fn.length c0] else undef,bif b1 then .slice (some ⟨g1,0,none⟩) 0 0 else undef,.pointer (some ⟨B,4,none⟩),.slice k.qi k.eC.length k.tC,bif d1 then .slice a1 k.eC.length c1 else undef,bif e then .agg #[.int .i64 k.now,.int .i64 k.major,.slice a0 k.fn.length c0,.slice none 0 0,.slice a1 k.eC.length c1] else undef,undef,undef,undef,undef,undef,undef,undef,undef,undef,undef,undef,undef,undef,undef,undef,undef,undef,undef,undef],[]⟩
def aa0 (k:eA) (We:World) (l:Array Bool) (a:Act) (w:World):Prop:= ∃ (b0 d0 f b1 d1 b3 d3 e:Bool) (g0 g1 o:Nat) (a0 a1:Option Addr) (c0 c1:Nat),l= #[true,true,true,true,true,b0,true,true,true,d0,f,b1,true,true,d1,e,b3,d3] ∧a=aac k We.heap.size b0 d0 f b1 d1 b3 e g0 g1 o a0 a1 c0 c1∧Zg k We w b0 d0 f b1 d1 b3 d3 e g0 g1 o a0 a1 c0 c1
abbrev aa4 (k:eA) (w w':World):Prop:=w'.cell? ⟨w.heap.size,0,none⟩=some (.int .i64 k.now)∧w'.cell? ⟨w.heap.size,1,none⟩=some (.int .i64 k.major)∧w'.cell? ⟨w.heap.size,2,none⟩=some (.slice k.vb k.fn.length k.Te)∧w'.cell? ⟨w.heap.size,4,none⟩=some (.slice k.qi k.eC.length k.tC)
structure YY (w W3:World) (X:Nat) (k:eA) (a0 a1:Option Addr) (c0 c1 n:Nat) (I:List af) (Zj:Option Addr) (cp:Nat) (W:World):Prop where
 box:W.heap[X]? =some (.cells #[.int .i64 k.now,.int .i64 k.major,.slice a0 k.fn.length c0,.slice Zj I.length cp,.slice a1 k.eC.length c1] 37 (0,0))
 pg:YR W3.heap.size W3.heap.size I Zj cp W
 pure:I.map (·.pure)=(k.parts.take n).map (·.pure)
 same: ∀ g,g < W3.heap.size→g≠X→W.heap[g]? =W3.heap[g]?
 cd:Below w.heap.size w W
 size:W3.heap.size≤W.heap.size
section
variable {w W3 W W5:World} {X n c0 c1 cp:Nat} {k:eA} {a0 a1 Zj:Option Addr} {I:List af} {p r:af}
theorem YY.drew (h:YY w W3 X k a0 a1 c0 c1 n I Zj cp W):YY w W3 X k a0 a1 c0 c1 n I Zj cp W.drew:=⟨h.box,h.pg.same fun _ _=>rfl,h.pure,h.same,h.cd.drew,h.size⟩
theorem YY.len (h:YY w W3 X k a0 a1 c0 c1 n I Zj cp W):I.length≤n:=by
 have h1:=congrArg List.length h.pure;simp at h1;omega
theorem YY.step (h:YY w W3 X k a0 a1 c0 c1 n I Zj cp W) (hp:k.parts[n]? =some p) (hX:w.heap.size≤X∧X < W3.heap.size) (hn:k.parts.length≤1048576) (hr:ap W5 W.heap.size r) (gn:r.pure=p.pure) (hb:Below W.heap.size W W5):
  ∃ a' cap' w',(Builtin.append_ #[34,34] 34 #[.slice Zj I.length cp,.slice (some ⟨W5.heap.size,0,none⟩) 1 1]).run J3 (W5.alloc (.cells r.cells 48))= .ok (.slice a' (I.length+1) cap') w'∧(∀ g,g < W3.heap.size→w'.heap[g]? =W.heap[g]?)∧Below w.heap.size w w'∧w'.heap[X]? =some (.cells #[.int .i64 k.now,.int .i64 k.major,.slice a0 k.fn.length c0,.slice Zj I.length cp,.slice a1 k.eC.length c1] 37 (0,0))∧YY w W3 X k a0 a1 c0 c1 (n+1) (I ++ [r]) a' cap' (w'.setCell ⟨X,3,none⟩ (.slice a' (I.length+1) cap')):=by
 have hlt:n < k.parts.length:=(Lj.1 hp).1;have hlen:=h.len;have hsz:=h.size;have aaX:=hb.size;have hlow: ∀ g∈blk Zj,W3.heap.size≤g:=fun g hg=>(cf h.pg.own hg).1
 have hf: ∀ g∈r.Mc,g∉blk Zj ++ I.flatMap af.Mc:=fun g hg hm=>by
  have:=h.pg.lt g hm
  have:=(hr.lt g hg).1
  omega
 obtain ⟨a',cap',w',h1,h2,h3,h4⟩:=aaw (h.pg.below hb) (hr.lower hsz) hf (by omega) (by omega);have hw':=h3.size;have lY:Below w.heap.size w w':=(h.cd.trans (hb.mono h.cd.size)).trans (h3.below (by have:=h.cd.size; omega) fun g hg=>by have:=hlow g hg; omega);have hsame: ∀ g,g < W3.heap.size→w'.heap[g]? =W.heap[g]? :=fun g hg=>(h3.same g (by omega) fun hm=>by have:=hlow g hm; omega).trans (hb.block g (by omega))
 have lD:=(hsame X (by omega)).trans h.box;refine ⟨a',cap',w',h1,hsame,lY,lD,?_,h2.same fun g hg=>Go.Deep.blk_setCell_other _ _ _ _ ?_,?_,fun g hg hx=>(Go.Deep.blk_setCell_other _ _ _ _ hx).trans ((hsame g hg).trans (h.same g hg hx)),lY.setCell hX.1 _,?_⟩
 ·rw [List.length_append,List.length_singleton]
  exact heap_setCell_same _ _ _ _ _ _ lD
 ·show g≠X
  rcases Kg.1 hg with hg | hg
  ·have:=(cf h2.own hg).1; omega
  ·obtain ⟨q,hq,hgq⟩:=Rt.1 hg
   have:=((h2.mine q hq).lt g hgq).1
   omega
 ·rw [cj hp,Kl,Kl,h.pure,List.map_singleton,List.map_singleton,gn]
 ·simp [World.setCell]; omega
end
def abq (w:World) (k:eA) (e:Ending) (w':World):Prop:= ∃ (k':eA) (g:Nat),e= .returned (.agg k'.row)∧gp w' w.heap.size k'∧k'.pure=k.pure∧(k'.vb=some ⟨g,0,none⟩∧g < w'.heap.size)∧Below w.heap.size w w'
theorem aaz (k:eA) (w:World) (hf:k.Fit) (h:eA.At w k):
  Calls J3 70 #[.agg k.row] w fun e w'=>abq w k e w':=by
 have HF:Hid (k.Fit∧eA.At w k):=⟨hf,h⟩
 have HC:Hid (Zg k w ((w.alloc (.cells k.row 37)).alloc (.cells T9 37)).drew false false false false false false false false 0 0 0 none none 0 0):=by
  have b1:Below w.heap.size w ((w.alloc (.cells k.row 37)).alloc (.cells T9 37)):=((Below.refl _ _).alloc (Ki _) _).alloc (by simp) _;exact ⟨b1.drew,(PU (by simp)).trans (heap_alloc_new _ _),heap_alloc2_new _ _ _,⟨(fun h=>by cases h),fun h=>by cases h⟩,⟨(fun h=>by cases h),fun h=>by cases h⟩,(fun h=>by cases h),⟨(fun h=>by cases h),(fun h=>by cases h),fun h=>by cases h⟩,(by simp),⟨fun i j _ q hq=>by rcases i with _ | _ | _ | _ | _ <;> simp [four,bM] at hq,fun i q hq=>by rcases i with _ | _ | _ | _ | _ <;> simp [four,bM] at hq⟩,fun h=>by cases h⟩
 have HS:Hid (aa4 k w ((w.alloc (.cells k.row 37)).alloc (.cells T9 37)).drew):=by obtain ⟨m0,m1,m2,m3,m4⟩:=HC.I.src.cells; exact ⟨m0,m1,m2,m4⟩
 clear hf h
 go_enter Tryz.func70,Tryz.ntmps70
 go_upto_region 1 with fail;generalize (w.alloc (.cells k.row 37)).alloc (.cells T9 37)=W at *;refine ZN (fun a0 a' w'=> ∃ (e5 e6 e7 e8 e9 Pn e11 PF PG e14 e15 e16 PH e18 e19 e20:Value) (g0 g1 o:Nat) (a0' a1':Option Addr) (c0 c1:Nat),a'=Zk a0 [(3,.pointer (some ⟨o,0,none⟩)),(5,e5),(6,e6),(7,e7),(8,e8),(9,e9),(10,Pn),(11,e11),(12,PF),(13,PG),(14,e14),(15,e15),(16,e16),(17,PH),(18,e18),(19,e19),(20,e20)] ∧Zg k w w' true true true true true true true true g0 g1 o a0' a1' c0 c1) ?_ ?_
 ·refine Kr (S:=aa4 k w) (by kernel_rfl) HS.I (fun hHeld=> ?_)
  refine tt 0 hHeld ?_;refine tt 1 hHeld ?_;refine tt 2 hHeld ?_;refine tt 3 hHeld ?_;refine tt 4 hHeld ?_;refine tt 6 hHeld ?_;refine tt 7 hHeld ?_;refine tt 8 hHeld ?_;refine tt 12 hHeld ?_;refine tt 13 hHeld ?_;refine wild (aa0 k w) (fun l a w1 hI=> ?_) (fun l a w1 hI i hi=> ?_) (fun l a w1 hI h0=> ?_) _ _ _ _ ⟨false,false,false,false,false,false,false,false,0,0,0,none,none,0,0,by kernel_rfl,rfl,HC.I⟩ (of_decide_eq_true (by kernel_rfl))
  ·obtain ⟨b0,d0,f,b1,d1,b3,d3,e,g0,g1,o,a0,a1,c0,c1,-,-,hC⟩:=hI
   obtain ⟨m0,m1,m2,m3,m4⟩:=hC.src.cells;exact ⟨m0,m1,m2,m4⟩
  ·obtain ⟨b0,d0,f,b1,d1,b3,d3,e,g0,g1,o,a0,a1,c0,c1,rfl,rfl,hC⟩:=hI
   have HI:Hid (Zg k w w1 b0 d0 f b1 d1 b3 d3 e g0 g1 o a0 a1 c0 c1):=hC;clear hC;unfold aac
   match i,hi with
   | 0,hi=>exact absurd (cX hi) (by simp)
   | 1,hi=>exact absurd (cX hi) (by simp)
   | 2,hi=>exact absurd (cX hi) (by simp)
   | 3,hi=>exact absurd (cX hi) (by simp)
   | 4,hi=>exact absurd (cX hi) (by simp)
   | 5,hi=>
    have hb:b0=false:=by have h5:=cX hi; simpa using h5
    subst hb;refine ln (o:=_) rfl (by kernel_rfl) (fun K hK=> ?_);go_wp2_with fail;exact hK.out _ _ ⟨true,d0,f,b1,d1,b3,d3,e,w1.heap.size,g1,o,a0,a1,c0,c1,by rfl,by rfl,HI.I.aaZ⟩
   | 6,hi=>exact absurd (cX hi) (by simp)
   | 7,hi=>exact absurd (cX hi) (by simp)
   | 8,hi=>exact absurd (cX hi) (by simp)
   | 9,hi=>
    have hb:d0=false:=by have h5:=cX hi; simpa using h5
    have hn5:b0=true:=by have h5:=hF [5,8] hi (by kernel_rfl) 5 (by decide); simpa using h5
    subst hb hn5;refine ln (o:=_) rfl (by kernel_rfl) (fun K hK=> ?_);obtain ⟨a',c',w2,hr,ho,hg,hq,hs⟩:=aaU w1 (w.heap.size+2) g0 (HI.I.s0.made rfl rfl).1 (HI.I.s0.made rfl rfl).2 k.vb k.fn k.Te ((HF.I.2.below HI.I.cd).fn.1) HF.I.1.Ts HI.I.size;refine cM _ _ _ rfl _ _ _ w2 rfl rfl hr ?_;have hf:f=false:=by cases f with | false=>rfl | true=>(have h5:=HI.I.cl.2.2 rfl; simp at h5)
    subst hf;have he:e=false:=by cases e with | false=>rfl | true=>(have h5:=(HI.I.cl.1 rfl).1; simp at h5)
    subst he;exact hK.out _ _ ⟨true,true,false,b1,d1,b3,d3,false,g0,g1,o,a',a1,c',c1,by rfl,by rfl,HI.I.aa1 ho hg hq hs⟩
   | 10,hi=>
    have hb:f=false:=by have h5:=cX hi; simpa using h5
    have hn9:d0=true:=by have h5:=hF [4,9] hi (by kernel_rfl) 9 (by decide); simpa using h5
    subst hb hn9;refine ln (o:=_) rfl (by kernel_rfl) (fun K hK=> ?_);go_wp2_with fail;exact hK.out _ _ ⟨b0,true,true,b1,d1,b3,d3,e,g0,g1,o,a0,a1,c0,c1,by rfl,by rfl,HI.I.frame rfl⟩
   | 11,hi=>
    have hb:b1=false:=by have h5:=cX hi; simpa using h5
    subst hb;refine ln (o:=_) rfl (by kernel_rfl) (fun K hK=> ?_);go_wp2_with fail;exact hK.out _ _ ⟨b0,d0,f,true,d1,b3,d3,e,g0,w1.heap.size,o,a0,a1,c0,c1,by rfl,by rfl,HI.I.abg⟩
   | 12,hi=>exact absurd (cX hi) (by simp)
   | 13,hi=>exact absurd (cX hi) (by simp)
   | 14,hi=>
    have hb:d1=false:=by have h5:=cX hi; simpa using h5
    have hn11:b1=true:=by have h5:=hF [11,13,9] hi (by kernel_rfl) 11 (by decide); simpa using h5
    subst hb hn11;refine ln (o:=_) rfl (by kernel_rfl) (fun K hK=> ?_);obtain ⟨a',c',w2,hr,ho,hg,hq⟩:=abd w1 (w.heap.size+2) g1 (HI.I.s1.made rfl rfl).1 (HI.I.s1.made rfl rfl).2 k.qi k.eC k.tC ((HF.I.2.below HI.I.cd).eC.1) HF.I.1.w8 HI.I.size;refine cM _ _ _ rfl _ _ _ w2 rfl rfl hr ?_;have he:e=false:=by cases e with | false=>rfl | true=>(have h5:=(HI.I.cl.1 rfl).2; simp at h5)
    subst he;exact hK.out _ _ ⟨b0,d0,f,true,true,b3,d3,false,g0,g1,o,a0,a',c0,c',by rfl,by rfl,HI.I.aa2 ho hg hq⟩
   | 15,hi=>
    have hb:e=false:=by have h5:=cX hi; simpa using h5
    have hn10:f=true:=by have h5:=hF [1,10,14] hi (by kernel_rfl) 10 (by decide); simpa using h5
    have hn14:d1=true:=by have h5:=hF [1,10,14] hi (by kernel_rfl) 14 (by decide); simpa using h5
    subst hb hn10 hn14;refine ln (o:=_) rfl (by kernel_rfl) (fun K hK=> ?_);go_wp2_with fail;exact hK.out _ _ ⟨b0,d0,true,b1,true,b3,d3,true,g0,g1,o,a0,a1,c0,c1,by rfl,by rfl,HI.I.build rfl rfl⟩
   | 16,hi=>
    have hb:b3=false:=by have h5:=cX hi; simpa using h5
    subst hb;refine ln (o:=_) rfl (by kernel_rfl) (fun K hK=> ?_);have hd3:d3=false:=by cases d3 with | false=>rfl | true=>(have h5:=HI.I.cl.2.1 rfl; simp at h5)
    subst hd3;go_wp2_with fail;exact hK.out _ _ ⟨b0,d0,f,b1,d1,true,false,e,g0,g1,w1.heap.size,a0,a1,c0,c1,by rfl,by rfl,HI.I.aa9⟩
   | 17,hi=>
    have hb:d3=false:=by have h5:=cX hi; simpa using h5
    have hn16:b3=true:=by have h5:=hF [16,15,14,0,1,2,3,4,5,6,7,8,9,10,11,12,13,14,15,16] hi (by kernel_rfl) 16 (by decide); simpa using h5
    have hn15:e=true:=by have h5:=hF [16,15,14,0,1,2,3,4,5,6,7,8,9,10,11,12,13,14,15,16] hi (by kernel_rfl) 15 (by decide); simpa using h5
    subst hb hn16 hn15;refine ln (o:=_) rfl (by kernel_rfl) (fun K hK=> ?_);refine qd _ _ _ rfl o _ _ _ rfl rfl (HI.I.I rfl) (by kernel_rfl) rfl (by kernel_rfl) ?_;exact hK.out _ _ ⟨b0,d0,f,b1,d1,true,true,true,g0,g1,o,a0,a1,c0,c1,by rfl,by rfl,HI.I.store⟩
   | n+18,hi=>exact absurd (cX hi) (by simp)
  ·obtain ⟨b0,d0,f,b1,d1,b3,d3,e,g0,g1,o,a0,a1,c0,c1,rfl,rfl,hC⟩:=hI
   have hno: ∀ i,i∉Region.ready .any _ _:=fun i hi=>by rw [h0] at hi; cases hi
   have hb0:b0=true:=by cases hx:b0 with | true=>rfl | false=>exact absurd (jW [] (by kernel_rfl) (by kernel_rfl) (by simp [hx]) (fun j hj=>by cases hj)) (hno 5)
   have hd0:d0=true:=by cases hx:d0 with | true=>rfl | false=>exact absurd (jW [5,8] (by kernel_rfl) (by kernel_rfl) (by simp [hx]) (fun j hj=>by simp only [Kt,Ku,or_false] at hj; rcases hj with rfl | rfl <;> first | rfl | simp [hb0])) (hno 9)
   have hf:f=true:=by cases hx:f with | true=>rfl | false=>exact absurd (jW [4,9] (by kernel_rfl) (by kernel_rfl) (by simp [hx]) (fun j hj=>by simp only [Kt,Ku,or_false] at hj; rcases hj with rfl | rfl <;> first | rfl | simp [hd0])) (hno 10)
   have hb1:b1=true:=by cases hx:b1 with | true=>rfl | false=>exact absurd (jW [] (by kernel_rfl) (by kernel_rfl) (by simp [hx]) (fun j hj=>by cases hj)) (hno 11)
   have hd1:d1=true:=by cases hx:d1 with | true=>rfl | false=>exact absurd (jW [11,13,9] (by kernel_rfl) (by kernel_rfl) (by simp [hx]) (fun j hj=>by simp only [Kt,Ku,or_false] at hj; rcases hj with rfl | rfl | rfl <;> first | rfl | simp [hb1,hd0])) (hno 14)
   have he:e=true:=by cases hx:e with | true=>rfl | false=>exact absurd (jW [1,10,14] (by kernel_rfl) (by kernel_rfl) (by simp [hx]) (fun j hj=>by simp only [Kt,Ku,or_false] at hj; rcases hj with rfl | rfl | rfl <;> first | rfl | simp [hf,hd1])) (hno 15)
   have hb3:b3=true:=by cases hx:b3 with | true=>rfl | false=>exact absurd (jW [] (by kernel_rfl) (by kernel_rfl) (by simp [hx]) (fun j hj=>by cases hj)) (hno 16)
   have hd3:d3=true:=by cases hx:d3 with | true=>rfl | false=>exact absurd (jW [16,15,14,0,1,2,3,4,5,6,7,8,9,10,11,12,13,14,15,16] (by kernel_rfl) (by kernel_rfl) (by simp [hx]) (fun j hj=>by simp only [Kt,Ku,or_false] at hj; rcases hj with rfl | rfl | rfl | rfl | rfl | rfl | rfl | rfl | rfl | rfl | rfl | rfl | rfl | rfl | rfl | rfl | rfl | rfl | rfl | rfl <;> first | rfl | simp [hb0,hd0,hf,hb1,hd1,he,hb3])) (hno 17)
   subst hb0 hd0 hf hb1 hd1 he hb3 hd3;simp only [aac,cond_true];exact ⟨_,_,_,_,_,_,_,_,_,_,_,_,_,_,_,_,g0,g1,o,a0,a1,c0,c1,by simp only [Zk,pt,sb,s0,s1]; rfl,hC⟩
 ·rintro a' W3 ⟨e5,e6,e7,e8,e9,Pn,e11,PF,PG,e14,e15,e16,PH,e18,e19,e20,g0,g1,X,a0,a1,c0,c1,rfl,hC⟩
  have HI:=aA hC;clear hC HC HS;simp only [Zk,pt,sb,s0,s1];have HX:Hid (w.heap.size+2≤X∧X < W3.heap.size):=HI.I.pR.xy 3 X (by simp [four]);go_wp2_with fail
  go_loopw [4] (fun i wr=> ∃ n:Nat,n≤k.parts.length∧i= .int .i64 n∧Hid (∃ (I:List af) (Zj:Option Addr) (cp:Nat),YY w W3 X k a0 a1 c0 c1 n I Zj cp wr)) (fun i _=>k.parts.length - (Go.RowKit.intOf i).toNat)
  case atStart=>exact ⟨0,Nat.zero_le _,rfl,⟨[],none,0,HI.I.I rfl,YR.start _ _ _,rfl,fun _ _ _=>rfl,HI.I.cd,Ki _⟩⟩
  case round=>
   obtain ⟨n,hk,rfl,HA⟩:=hrel;obtain ⟨I,Zj,cp,hA⟩:=HA.I;replace HA:=aA hA;clear hA;have hkb:Tk wr w.heap.size k:=(HA.I.same _ (by have:=HX.I; omega) (by have:=HX.I; omega)).trans HI.I.src;by_cases hlt:n < k.parts.length
   ·have i0:(0:Int)≤(n:Int):=by omega
    have i1:(n:Int) < (k.parts.length:Int):=by omega
    have hl20:=HF.I.1.sC;obtain ⟨p,hp⟩: ∃ p,k.parts[n]? =some p:=⟨_,List.getElem?_eq_getElem hlt⟩
    have HP:=aA hp;clear hp;have Ul:=aA hkb;obtain ⟨m0,m1,m2,m3,m4⟩:=hkb.cells;clear hkb;go_upto_region 5 with fail;clear m0 m1 m2 m3 m4;refine ZN (fun a0' a' w'=> ∃ (e28 e29 e30 e31 e32 e33 e34 e35 e36 e37 e38:Value) (aaF:List af) (ap2:Option Addr) (cp2:Nat),a'=Zk a0' [(28,e28),(29,e29),(30,e30),(31,e31),(32,e32),(33,e33),(34,e34),(35,e35),(36,e36),(37,e37),(38,e38)] ∧YY w W3 X k a0 a1 c0 c1 (n+1) aaF ap2 cp2 w') ?_ ?_
    ·refine Kr (S:=(fun W=>Below w.heap.size w W∧Tk W w.heap.size k)) (by kernel_rfl) ⟨HA.I.cd.drew,Ul.I⟩ (fun _=> ?_)
     replace HA:=aA HA.I.drew;replace Ul:Hid (Tk (World.drew _) w.heap.size k):=Ul.I;generalize World.drew _=V at *;have HSV:Hid (Below w.heap.size w V∧Tk V w.heap.size k):=⟨HA.I.cd,Ul.I⟩
     obtain ⟨gs,iE,-,-⟩:=ic HF.I.2.parts HP.I;have HG:Hid (∀ W,Below w.heap.size w W→af.In W gs n p):=fun W hW=>by obtain ⟨g2,h2,h3,-⟩:=ic (HF.I.2.below hW).parts HP.I; rw [iE] at h2; cases h2; exact h3
     have HGA:=aA iE;clear iE;refine tt 0 HSV.I ?_;refine tt 2 HSV.I ?_;refine tt 3 HSV.I ?_ (hy:=fun w0 hS0=>by obtain ⟨m0,m1,m2,m3,m4⟩:=hS0.2.cells; rw [HGA.I] at m3; go_simp; try with_reducible rfl);refine tt 4 HSV.I ?_;refine tt 5 HSV.I ?_;refine tt 6 HSV.I ?_ (hy:=fun w0 hS0=>by obtain ⟨q0,q1,q2,q3,q4,q5,q6,q7⟩:=HG.I w0 hS0.1; go_simp; try with_reducible rfl)
     try simp only [pt,sb,s0,s1]
     have HCX:Hid (∀ W:World,W.heap[X]? =some (.cells #[.int .i64 k.now,.int .i64 k.major,.slice a0 k.fn.length c0,.slice Zj I.length cp,.slice a1 k.eC.length c1] 37 (0,0))→W.cell? ⟨X,3,none⟩=some (.slice Zj I.length cp)):=fun W h=>by simp [World.cell?,h]
     have HT:Hid (Calls J3 46 #[.agg p.cells] V fun e W5=> ∃ r:af,e= .returned (.agg r.cells)∧Below V.heap.size V W5∧ ∃ a' cap' w',(Builtin.append_ #[34,34] 34 #[.slice Zj I.length cp,.slice (some ⟨W5.heap.size,0,none⟩) 1 1]).run J3 (W5.alloc (.cells r.cells 48))= .ok (.slice a' (I.length+1) cap') w'∧(∀ g,g < W3.heap.size→w'.heap[g]? =V.heap[g]?)∧Below w.heap.size w w'∧w'.heap[X]? =some (.cells #[.int .i64 k.now,.int .i64 k.major,.slice a0 k.fn.length c0,.slice Zj I.length cp,.slice a1 k.eC.length c1] 37 (0,0))∧YY w W3 X k a0 a1 c0 c1 (n+1) (I ++ [r]) a' cap' (w'.setCell ⟨X,3,none⟩ (.slice a' (I.length+1) cap'))):=by
      have hfp:=HF.I.1.parts p (List.mem_of_getElem? HP.I);refine Calls.mono (fR p V hfp.1 hfp.2 (by obtain ⟨g2,-,-,h3⟩:=ic (HF.I.2.below HA.I.cd).parts HP.I; exact h3)) ?_;rintro e W5 ⟨r,rfl,ho,gn,hb⟩;exact ⟨r,rfl,hb,HA.I.step HP.I ⟨by have:=HX.I.1; omega,HX.I.2⟩ HF.I.1.sC ho gn hb⟩
     refine KW (rs:= [1,7]) (by kernel_rfl) (by simp) ?_;refine KX rfl (fun Q hQ=> ?_) (KX rfl (fun Q hQ=> ?_) KY)
     focus
      simp only [KZ,K0,K1];rw [if_pos (by rfl)];have c3:=HCX.I V HA.I.box
      try simp only [af.cells] at c3
      go_wp2_with fail;clear c3;refine hQ.out _ _ HSV.I (fun _=> ?_);clear hQ Q
      try simp only [pt,sb,s0,s1]
      refine L7 7 (fun Q hQ=> ?_)
      try simp only [af.cells] at HT
      go_wp2_with fail;refine HT.I.mono ?_;rintro e W5 ⟨r,rfl,iJ,a',cap',w',hap,qY,lY,lW,hpl⟩;have H5:Hid ((Below w.heap.size w W5∧Tk W5 w.heap.size k)∧(Below w.heap.size w (W5.alloc (.cells r.cells 48))∧Tk (W5.alloc (.cells r.cells 48)) w.heap.size k)∧W5.heap[X]? =V.heap[X]? ∧(W5.alloc (.cells r.cells 48)).heap[X]? =V.heap[X]?):=by
       have hv:=HA.I.cd.trans (iJ.mono HA.I.cd.size);have hs:=iJ.size;have hs2:=HA.I.size;have Ix:=HX.I;have hx:W5.heap[X]? =V.heap[X]? :=iJ.block X (by omega);have hk5:Tk W5 w.heap.size k:=(iJ.block _ (by omega)).trans Ul.I;exact ⟨⟨hv,hk5⟩,⟨hv.alloc hv.size _,(Below.heap_alloc _ _ _ (by omega)).trans hk5⟩,hx,(Below.heap_alloc _ _ _ (by omega)).trans hx⟩
      have HN:Hid ((Builtin.append_ #[34,34] 34 #[.slice Zj I.length cp,.slice (some ⟨W5.heap.size,0,none⟩) 1 1]).run J3 (W5.alloc (.cells r.cells 48))= .ok (.slice a' (I.length+1) cap') w'):=hap;have HM:Hid ((Below w.heap.size w w'∧Tk w' w.heap.size k)∧w'.heap[X]? =some (.cells #[.int .i64 k.now,.int .i64 k.major,.slice a0 k.fn.length c0,.slice Zj I.length cp,.slice a1 k.eC.length c1] 37 (0,0))∧YY w W3 X k a0 a1 c0 c1 (n+1) (I ++ [r]) a' cap' (w'.setCell ⟨X,3,none⟩ (.slice a' (I.length+1) cap'))∧Tk (w'.setCell ⟨X,3,none⟩ (.slice a' (I.length+1) cap')) w.heap.size k):=by
       have Ix:=HX.I;have zU:Tk w' w.heap.size k:=(qY _ (by omega)).trans Ul.I;exact ⟨⟨lY,zU⟩,lW,hpl,(Go.Deep.blk_setCell_other _ _ _ _ (by show w.heap.size≠X; omega)).trans zU⟩
      clear hap qY lY lW hpl iJ;refine hQ.out _ _ H5.I.1 (fun _=> ?_);clear hQ Q
      try simp only [pt,sb,s0,s1]
      refine L7 8 (fun Q hQ=> ?_)
      try simp only [af.cells]
      go_wp2_with fail;refine hQ.out _ _ H5.I.2.1 (fun _=> ?_);clear hQ Q
      try simp only [pt,sb,s0,s1]
     rotate_left
     focus
      simp only [KZ,K0,K1];rw [if_pos (by rfl)]
      try simp only [af.cells] at HT
      go_wp2_with fail;refine HT.I.mono ?_;rintro e W5 ⟨r,rfl,iJ,a',cap',w',hap,qY,lY,lW,hpl⟩;have H5:Hid ((Below w.heap.size w W5∧Tk W5 w.heap.size k)∧(Below w.heap.size w (W5.alloc (.cells r.cells 48))∧Tk (W5.alloc (.cells r.cells 48)) w.heap.size k)∧W5.heap[X]? =V.heap[X]? ∧(W5.alloc (.cells r.cells 48)).heap[X]? =V.heap[X]?):=by
       have hv:=HA.I.cd.trans (iJ.mono HA.I.cd.size);have hs:=iJ.size;have hs2:=HA.I.size;have Ix:=HX.I;have hx:W5.heap[X]? =V.heap[X]? :=iJ.block X (by omega);have hk5:Tk W5 w.heap.size k:=(iJ.block _ (by omega)).trans Ul.I;exact ⟨⟨hv,hk5⟩,⟨hv.alloc hv.size _,(Below.heap_alloc _ _ _ (by omega)).trans hk5⟩,hx,(Below.heap_alloc _ _ _ (by omega)).trans hx⟩
      have HN:Hid ((Builtin.append_ #[34,34] 34 #[.slice Zj I.length cp,.slice (some ⟨W5.heap.size,0,none⟩) 1 1]).run J3 (W5.alloc (.cells r.cells 48))= .ok (.slice a' (I.length+1) cap') w'):=hap;have HM:Hid ((Below w.heap.size w w'∧Tk w' w.heap.size k)∧w'.heap[X]? =some (.cells #[.int .i64 k.now,.int .i64 k.major,.slice a0 k.fn.length c0,.slice Zj I.length cp,.slice a1 k.eC.length c1] 37 (0,0))∧YY w W3 X k a0 a1 c0 c1 (n+1) (I ++ [r]) a' cap' (w'.setCell ⟨X,3,none⟩ (.slice a' (I.length+1) cap'))∧Tk (w'.setCell ⟨X,3,none⟩ (.slice a' (I.length+1) cap')) w.heap.size k):=by
       have Ix:=HX.I;have zU:Tk w' w.heap.size k:=(qY _ (by omega)).trans Ul.I;exact ⟨⟨lY,zU⟩,lW,hpl,(Go.Deep.blk_setCell_other _ _ _ _ (by show w.heap.size≠X; omega)).trans zU⟩
      clear hap qY lY lW hpl iJ;refine hQ.out _ _ H5.I.1 (fun _=> ?_);clear hQ Q
      try simp only [pt,sb,s0,s1]
      refine KW (rs:= [1,8]) (by kernel_rfl) (by simp) ?_;refine KX rfl (fun Q hQ=> ?_) (KX rfl (fun Q hQ=> ?_) KY)
      focus
       simp only [KZ,K0,K1];rw [if_pos (by rfl)];have c3:=HCX.I W5 (H5.I.2.2.1.trans HA.I.box)
       try simp only [af.cells] at c3
       go_wp2_with fail;clear c3;refine hQ.out _ _ H5.I.1 (fun _=> ?_);clear hQ Q
       try simp only [pt,sb,s0,s1]
       refine L7 8 (fun Q hQ=> ?_)
       try simp only [af.cells]
       go_wp2_with fail;refine hQ.out _ _ H5.I.2.1 (fun _=> ?_);clear hQ Q
       try simp only [pt,sb,s0,s1]
      rotate_left
      focus
       simp only [KZ,K0,K1];rw [if_pos (by rfl)]
       try simp only [af.cells]
       go_wp2_with fail;refine hQ.out _ _ H5.I.2.1 (fun _=> ?_);clear hQ Q
       try simp only [pt,sb,s0,s1]
       refine L7 1 (fun Q hQ=> ?_);have c3:=HCX.I _ (H5.I.2.2.2.trans HA.I.box)
       try simp only [af.cells] at c3
       go_wp2_with fail;clear c3;refine hQ.out _ _ H5.I.2.1 (fun _=> ?_);clear hQ Q
       try simp only [pt,sb,s0,s1]
     all_goals
      refine L7 9 (fun Q hQ=> ?_);refine cM _ _ 34 rfl _ _ _ w' rfl rfl HN.I ?_;refine hQ.out _ _ HM.I.1 (fun _=> ?_);clear hQ Q
      try simp only [pt,sb,s0,s1]
      refine tt 10 HM.I.1 ?_;refine L7 11 (fun Q hQ=> ?_);have c3:w'.cell? ⟨X,3,none⟩=some (.slice Zj I.length cp):=HCX.I _ HM.I.2.1;have u3:w'.frozen? ⟨X,3,none⟩=false:=by have:=HM.I.2.1; simp [World.frozen?,this]
      go_wp2_with fail;clear c3 u3;refine hQ.out _ _ ⟨HM.I.2.2.1.cd,HM.I.2.2.2⟩ (fun _=> ?_);clear hQ Q;refine wpAnyH_done (by kernel_rfl) ?_ _;exact ⟨_,_,_,_,_,_,_,_,_,_,_,I ++ [r],a',cap',by simp only [Zk,pt,sb,s0,s1]; rfl,HM.I.2.2.1⟩
    ·rintro a' W5 ⟨e28,e29,e30,e31,e32,e33,e34,e35,e36,e37,e38,aaF,ap2,cp2,rfl,hA2⟩
     replace HA:=aA hA2;clear hA2;simp only [Zk,pt,sb,s0,s1];go_wp2;go_roundw
     case rel=>exact ⟨n+1,by omega,by go_num,⟨aaF,ap2,cp2,HA.I⟩⟩
     case measure=>simp [Go.RowKit.intOf]; omega
   ·have i1: ¬ (n:Int) < (k.parts.length:Int):=by omega
    have ek:n=k.parts.length:=by omega
    subst ek;obtain ⟨m0,m1,m2,m3,m4⟩:=hkb.cells;clear hkb;have hz0:wr.heap[w.heap.size+1]? =some (.cells T9 37 (0,0)):=(HA.I.same _ (by have:=HX.I; omega) (by have:=HX.I; omega)).trans HI.I.ret;have lW:=HA.I.box;have b0:wr.cell? ⟨X,0,none⟩=some (.int .i64 k.now):=by simp [World.cell?,lW]
    have b1:wr.cell? ⟨X,1,none⟩=some (.int .i64 k.major):=by simp [World.cell?,lW]
    have b2:wr.cell? ⟨X,2,none⟩=some (.slice a0 k.fn.length c0):=by simp [World.cell?,lW]
    have b3:wr.cell? ⟨X,3,none⟩=some (.slice Zj I.length cp):=by simp [World.cell?,lW]
    have b4:wr.cell? ⟨X,4,none⟩=some (.slice a1 k.eC.length c1):=by simp [World.cell?,lW]
    clear lW;go_wp2_with (refine wpList_store_row rfl 37 (.tmp 2) (.tmp 39) rfl _ _ _ #[.int .i64 k.now,.int .i64 k.major,.slice a0 k.fn.length c0,.slice Zj I.length cp,.slice a1 k.eC.length c1] rfl rfl hz0 (by kernel_rfl) rfl (by simp [Value.oneCell']) ?_);refine rtK Tryz.results70 hz0 ?_;have q0:=HX.I;have q4:=HA.I.size;have ap0:=HI.I.pR;have o1:=HI.I.s0.done rfl;have o2:=HI.I.s1.done rfl;have TX: ∀ g∈blk a0,w.heap.size+2≤g∧g < W3.heap.size∧g≠X:=fun g hg=>⟨(cf o1 hg).1,(cf o1 hg).2,fun e=>ap0.apart 0 3 (by decide) g (by simpa [four,bM] using hg) (by simp [four,e])⟩
    have aao: ∀ g∈blk a1,w.heap.size+2≤g∧g < W3.heap.size∧g≠X:=fun g hg=>⟨(cf o2 hg).1,(cf o2 hg).2,fun e=>ap0.apart 1 3 (by decide) g (by simpa [four,bM] using hg) (by simp [four,e])⟩
    have hpar: ∀ g∈blk Zj ++ I.flatMap af.Mc,W3.heap.size≤g:=fun g hg=>by
     rcases Kg.1 hg with hg | hg
     ·exact (cf HA.I.pg.own hg).1
     ·obtain ⟨q,hq,hgq⟩:=Rt.1 hg
      exact ((HA.I.pg.mine q hq).lt g hgq).1
    generalize hcs: #[Value.int .i64 k.now,.int .i64 k.major,.slice a0 k.fn.length c0,.slice Zj I.length cp,.slice a1 k.eC.length c1] =cs;have sm: ∀ g,g≠w.heap.size+1→(wr.setRow (w.heap.size+1) cs).heap[g]? =wr.heap[g]? :=fun g h3=>setRow_other _ _ _ _ h3
    have sm1: ∀ g,g < W3.heap.size→g≠X→g≠w.heap.size+1→(wr.setRow (w.heap.size+1) cs).heap[g]? =W3.heap[g]? :=fun g h1 h2 h3=>(sm g h3).trans (HA.I.same g h1 h2)
    have pg2:=HA.I.pg.same (W1:=wr.setRow (w.heap.size+1) cs) fun g hg=>by have:=hpar g hg; exact sm g (by omega)
    have own1:=aL (w':=wr.setRow (w.heap.size+1) cs) o1 fun g hg=>by have:=TX g hg; exact sm1 g (by omega) (by omega) (by omega)
    have abv:=aL (w':=wr.setRow (w.heap.size+1) cs) o2 fun g hg=>by have:=aao g hg; exact sm1 g (by omega) (by omega) (by omega)
    obtain ⟨gw,Fw⟩:=HI.I.som rfl;have hgl:gw < W3.heap.size:=(TX gw (by rw [Fw]; simp [blk])).2.1;refine ⟨⟨k.now,k.major,k.fn,a0,c0,I,Zj,cp,k.eC,a1,c1⟩,gw,by simp [← hcs],⟨cq own1 (by omega),cq pg2.own (by omega),cq abv (by omega),fun q hq=>(pg2.mine q hq).lower (by omega),?_⟩,?_,⟨Fw,by rw [size_setRow]; omega⟩,kz HA.I.cd (by omega) _⟩
    ·have hb1: ∀ x:Option Addr,(blk x).Nodup:=fun x=>by cases x <;> simp [blk]
     have hn:=Kf.1 HA.I.pg.nodup;refine Kf.2 ⟨hb1 _,Kf.2 ⟨hb1 _,Kf.2 ⟨hb1 _,hn.2.1,fun g hg g' hg' e=> ?_⟩,fun g hg g' hg' e=> ?_⟩,fun g hg g' hg' e=> ?_⟩
     ·have:=aao g hg; have:=hpar g' (Ly _ hg'); omega
     ·rcases Kg.1 hg' with h5 | h5
      ·have:=hpar g (Lz _ hg); have:=aao g' h5; omega
      ·exact hn.2.2 g hg g' h5 e
     ·have:=TX g hg
      rcases Kg.1 hg' with h5 | h5
      ·have:=hpar g' (Lz _ h5); omega
      ·rcases Kg.1 h5 with h5 | h5
       ·exact ap0.apart 0 1 (by decide) g (by simpa [four,bM] using hg) (by rw [e]; simpa [four,bM] using h5)
       ·have:=hpar g' (Ly _ h5); omega
    ·show kd.mk k.now k.major k.fn (I.map (·.pure)) k.eC=k.pure
     rw [HA.I.pure,List.take_length];rfl
end
section
open Go.RowKit Go.Maps
theorem adR {w W:World} {k:kd} {K:Nat} (hk:eP k=true) (h:VL w k K W): ∃ (b:Nat) (tab:Array Value) (l:List (aZ × Nat)) (ls:List gi) (a:Option Addr) (cap B:Nat),abE k w.heap.size K b tab l ls a cap B W∧ ∀ o∈ls,Joins l o:=by
 obtain ⟨w1,b,tab,l,ls,a,cap,h1,h2,h3,h4,h5,h6,_,h8⟩:=h.ex;have hR: ∀ p∈l,aQ p.1.pure:=fun p hp=>Ww hk _ (by rw [← h3]; exact List.mem_map.2 ⟨p,hp,rfl⟩)
 have hi:=Xo hk;have hw:k.fn.length≤20:=by
  have h9:=hk;simp only [eP,E4,nn,J7,decide_eq_true_eq] at h9;omega
 refine ⟨b,tab,l,ls,a,cap,w1.heap.size,⟨h1,hw,h2.kept h6.kept,h3,h4,h6.TN,h6.own,fun p hp=>iB (hR p hp),⟨?_,?_⟩,h8,fun p hp=> ?_⟩,h5⟩
 ·have h9:=congrArg List.length h3
  rw [KG] at h9;omega
 ·have h9:=congrArg List.length h4
  rw [KG] at h9;omega
 ·have h9:=bz.1 (hR p hp).id
  simp only [aZ.pure] at h9;have e1:IntKind.min .i64≤0:=by decide
  have e2:100000≤IntKind.max .i64:=by decide
  simp only [Lit.wf,J7,decide_eq_true_eq];omega
theorem cJ.lt {w:World} {base o:Nat} {S:aZ} (h:cJ w base o S): ∀ c∈o :: (S.boxes ++ S.kids),c < w.heap.size:=fun c hc=>by
 simp only [aZ.boxes,aZ.kids,Kt,Kg] at hc;rcases hc with rfl | ((hc | hc | hc | hc | hc | hc) | hc | hc | hc)
 ·exact (Array.getElem?_eq_some_iff.1 h.opn).1
 ·exact h.L8.lt c (Kt.2 hc)
 ·exact h.aj.lt c (Kt.2 hc)
 ·exact h.L9.lt c (Kt.2 hc)
 ·exact h.ag.lt c (Kt.2 hc)
 ·exact h.ae.lt c (Kt.2 hc)
 ·exact h.ai.lt c (Kt.2 hc)
 ·obtain ⟨r,hr,hk⟩:=Lq.1 hc
  exact ((h.eI r hr).lt hk).2
 ·obtain ⟨r,hr,hk⟩:=Lq.1 hc
  exact ((h.eE r hr).lt hk).2
 ·obtain ⟨r,hr,hk⟩:=Lq.1 hc
  exact ((h.eR r hr).lt hk).2
end
end Go.Proofs.YteidkehoekbcaaaGreat
