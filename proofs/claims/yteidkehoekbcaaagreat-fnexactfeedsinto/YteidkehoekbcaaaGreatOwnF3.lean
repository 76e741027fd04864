/- What the proof leans on, part 3. -/
import Derived.Test.YteidkehoekbcaaaGreatOwnK24
import Derived.Test.YteidkehoekbcaaaGreatOwnF1
import Derived.Test.YteidkehoekbcaaaGreatOwnF2
set_option maxRecDepth 100000
set_option maxHeartbeats 8000000
open Array renaming getElem?_eq_some_iff->J2
open Go renaming wp_at_succ->Kd,wp_at_zero->Kc
open Go.Proofs.Tryz renaming prog->J3
open Go.RowKit.Below renaming refl->Kp
open List renaming append_assoc->Lm,append_nil->QO,filter_append->QN,getElem?_eq_getElem->Kz,getElem?_eq_some_iff->Lj,length_append->Lf,length_map->KG,length_take->Lk,map_map->Lv,mem_append->Kg,mem_append_left->Lz,mem_cons_of_mem->LB,mem_filterMap->Lq,mem_map->Lr,mem_of_getElem?->KA,mem_singleton->KB,nodup_append->Kf,take_length->LQ,take_of_length_le->KF
open Nat renaming add_zero->PT,le_refl->Ki,le_trans->LG,zero_le->Ky

namespace Go.Proofs.YteidkehoekbcaaaGreat
section
open Go.RowKit Go.Maps
attribute [local go_sem ↓] Kc Kd
def Xr (k:kd) (part:Int) (l:List Int):Prop:=(eP k=true→part∈k.parts.map (·.id)→XO k.eC (zo k.parts) part l)∧(eP k=false∨part∉k.parts.map (·.id)→l= [])
theorem Yf {k:kd} {part:Int} {l m:List Int} (h:Xr k part l) (h':Xr k part m):l=m:=by
 cases hk:eP k
 ·rw [h.2 (.inl hk),h'.2 (.inl hk)]
 ·by_cases hp:part∈k.parts.map (·.id)
  ·exact Yo (h.1 hk hp) (h'.1 hk hp)
  ·rw [h.2 (.inr hp),h'.2 (.inr hp)]
theorem X8 {k:kd} {part:Int} {l:List Int} (h:Xr k part l):l.length≤6:=by
 cases hk:eP k
 ·rw [h.2 (.inl hk)]; simp
 ·by_cases hp:part∈k.parts.map (·.id)
  ·have h1:=h.1 hk hp
   have h2:=Xs (m:=k.parts.map (·.id)) (h1.kW.imp (fun {a b} h=>by omega)) fun i hi=>XY hk hp ((h1.mem i).1 hi)
   have h3:=(Xo hk).2.1;simp only [KG] at h2;omega
  ·rw [h.2 (.inr hp)]; simp
def XW (w:World) (k:kd) (part:Int) (e:Ending) (W:World):Prop:= ∃ (l:List Int) (a:Option Addr) (cap:Nat),e= .returned (.slice a l.length cap)∧W.ownsRow w.heap.size 2 1 (.slice a l.length cap) l.length (Xn l)∧Xr k part l∧Below w.heap.size w W
structure Xk (w:World) (k:eA) (B g0:Nat) (l:List Int) (a:Option Addr) (cap:Nat) (W:World):Prop where
 box:Tk W w.heap.size k
 low:Below w.heap.size w W
 I:W.heap[g0]? =some (.cells #[] 2 (0,0))
 own:W.ownsRow B 2 1 (.slice a l.length cap) l.length (Xn l)
 b0:w.heap.size < g0∧g0 < B∧B≤W.heap.size
section
variable {w W W2:World} {k:eA} {B g0:Nat} {l:List Int} {a:Option Addr} {cap:Nat}
theorem Xk.below (h:Xk w k B g0 l a cap W) (hb:Below W.heap.size W W2):Xk w k B g0 l a cap W2:=
 ⟨(hb.block _ (J2.1 h.box).1).trans h.box,h.low.trans (hb.mono h.low.size),(hb.block _ (J2.1 h.I).1).trans h.I,cR h.own hb,h.b0.1,h.b0.2.1,by have:=hb.size; have:=h.b0.2.2; omega⟩
theorem Xk.more {a2:Option Addr} {Ta:Nat} {z:Int} (h:Xk w k B g0 l a cap W) (ho:W2.ownsRow B 2 1 (.slice a2 (l.length+1) Ta) (l.length+1) (Xn (l ++ [z]))) (hk:aI W W2 (blk a)):Xk w k B g0 (l ++ [z]) a2 Ta W2:=by
 have hlow: ∀ g∈blk a,B≤g:=fun g hg=>(cf h.own hg).1
 obtain ⟨b1,b2,b3⟩:=h.b0;refine ⟨(hk.same _ (J2.1 h.box).1 fun hm=>by have:=hlow _ hm; omega).trans h.box,h.low.trans (hk.below h.low.size fun g hg=>by have:=hlow g hg; omega),(hk.same _ (J2.1 h.I).1 fun hm=>by have:=hlow _ hm; omega).trans h.I,by rw [Lf,List.length_singleton]; exact ho,b1,b2,by have:=hk.size; omega⟩
theorem Xk.ks (h:Xk w k B g0 l a cap W) (ha:eA.At w k):dr w w.heap.size k W:=⟨h.box,ha.below h.low,h.low⟩
end
structure Xj (k:kd) (part:Int) (l:List Int):Prop where
 nodup:l.Nodup
 has:part∈l
 rch: ∀ i∈l,XT k.eC (zo k.parts) part i
section
variable {k:kd} {part:Int} {l:List Int}
theorem Xj.len (h:Xj k part l) (hk:eP k=true) (hp:part∈k.parts.map (·.id)):l.length≤6:=by
 have h2:=Xs (m:=k.parts.map (·.id)) h.nodup fun i hi=>XY hk hp (h.rch i hi)
 have h3:=(Xo hk).2.1;simp only [KG] at h2;omega
theorem Xj.src {c:eQ} (h:Xj k part l) (hc:c∈k.eC) (hd:c.dst∈l) (hs:c.src∉l):Xj k part (l ++ [c.src]):=
 ⟨Kf.2 ⟨h.nodup,by simp,fun x hx y hy e=>hs (by rw [KB.1 hy] at e; rw [← e]; exact hx)⟩,Lz _ h.has,fun i hi=>by
  rcases Kg.1 hi with hi | hi
  ·exact h.rch i hi
  ·rw [KB.1 hi]; exact Yi hc (h.rch _ hd)⟩
theorem Xj.dst {c:eQ} (h:Xj k part l) (hc:c∈k.eC) (hq:zo k.parts c=true) (hs:c.src∈l) (hd:c.dst∉l):Xj k part (l ++ [c.dst]):=
 ⟨Kf.2 ⟨h.nodup,by simp,fun x hx y hy e=>hd (by rw [KB.1 hy] at e; rw [← e]; exact hx)⟩,Lz _ h.has,fun i hi=>by
  rcases Kg.1 hi with hi | hi
  ·exact h.rch i hi
  ·rw [KB.1 hi]; exact XV hc hq (h.rch _ hs)⟩
end
def Xy (k:kd) (n:Nat) (m:Bool) (l0 l:List Int):Prop:=(m=true→l0.length < l.length)∧(m=false→l=l0∧X0 (k.eC.take n) (zo k.parts) (· ∈l))
theorem Ya {k:kd} {l:List Int} :Xy k 0 false l l:=⟨fun h=>(by cases h),fun _=>⟨rfl,fun c hc=>by simp at hc⟩⟩
theorem Xu {k:kd} {n:Nat} {m:Bool} {l0 l:List Int} {c:eQ} (h:Xy k n m l0 l) (hc:k.eC[n]? =some c) (h1:c.dst∈l→c.src∈l) (h2:zo k.parts c=true→c.src∈l→c.dst∈l):Xy k (n+1) m l0 l:=
 ⟨h.1,fun hm=>⟨(h.2 hm).1,fun d hd=>by
  rw [cj hc] at hd;rcases Kg.1 hd with hd | hd
  ·exact (h.2 hm).2 d hd
  ·rw [KB.1 hd]; exact ⟨h1,h2⟩⟩⟩
theorem XJ {k:kd} {n n2:Nat} {m:Bool} {l0 l:List Int} (h:Xy k n m l0 l) (z:Int):Xy k n2 true l0 (l ++ [z]):=
 ⟨fun _=>by
  rw [Lf,List.length_singleton];cases m
  ·rw [(h.2 rfl).1]; omega
  ·have:=h.1 rfl; omega,fun e=>by cases e⟩
structure Xf (w:World) (k:eA) (g0:Nat) (l:List Int) (a:Option Addr) (cap:Nat) (o:List Int) (ao:Option Addr) (co:Nat) (V W:World):Prop where
 box:Tk W w.heap.size k
 low:Below w.heap.size w W
 own:W.ownsRow (w.heap.size+1) 2 1 (.slice ao o.length co) o.length (Xn o)
 inn:Row W a (Xn l)
 kept:aI V W [g0]
 bls: ∀ g∈blk ao,g=g0∨V.heap.size≤g
 far:g0∉blk a
 g0l:w.heap.size < g0
 vs:V.heap.size≤W.heap.size
 al: ∀ g∈blk a,g < V.heap.size
 xl:w.heap.size < V.heap.size
section
variable {w V W W2:World} {k:eA} {g0:Nat} {l o:List Int} {a ao:Option Addr} {cap co:Nat}
theorem XZ {W W2:World} {a:Option Addr} {xs:List Value} (h:Row W a xs) (hs: ∀ g∈blk a,W2.heap[g]? =W.heap[g]?):Row W2 a xs:=fun j u hu=>by
 obtain ⟨g,e,hc⟩:=h j u hu;subst e;exact ⟨g,rfl,(World.cell?_of_block (w:=W) (a:=⟨g,j,none⟩) (hs g (by simp [blk]))).trans hc⟩
theorem Xf.below (h:Xf w k g0 l a cap o ao co V W) (hb:Below W.heap.size W W2):Xf w k g0 l a cap o ao co V W2:=
 ⟨(hb.block _ (J2.1 h.box).1).trans h.box,h.low.trans (hb.mono h.low.size),cR h.own hb,h.inn.below hb,h.kept.trans (.dI hb),h.bls,h.far,h.g0l,LG h.vs hb.size,h.al,h.xl⟩
theorem Xf.more {a2:Option Addr} {c2:Nat} {z:Int} (h:Xf w k g0 l a cap o ao co V W) (ho:W2.ownsRow (w.heap.size+1) 2 1 (.slice a2 (o.length+1) c2) (o.length+1) (Xn (o ++ [z]))) (hk:aI W W2 (blk ao)) (hb: ∀ g∈blk a2,g∈blk ao∨W.heap.size≤g):Xf w k g0 l a cap (o ++ [z]) a2 c2 V W2:=by
 have hg0:=h.g0l;have hxl:=h.xl;have hx:w.heap.size∉blk ao:=fun hm=>by rcases h.bls _ hm with e | e <;> omega
 refine ⟨(hk.same _ (J2.1 h.box).1 hx).trans h.box,h.low.trans (hk.below h.low.size fun g hg=>by rcases h.bls _ hg with e | e <;> omega),by rw [Lf,List.length_singleton]; exact ho,XZ h.inn fun g hg=>hk.same g (by have:=h.al g hg; have:=h.vs; omega) fun hm=> ?_,?_,fun g hg=> ?_,h.far,h.g0l,LG h.vs hk.size,h.al,h.xl⟩
 ·rcases h.bls g hm with e | e
  ·exact h.far (by rw [← e]; exact hg)
  ·have:=h.al g hg; omega
 ·exact ⟨hk.os.trans h.kept.os,hk.tape.trans h.kept.tape,hk.output.trans h.kept.output,LG h.kept.size hk.size,fun g hg hn=>(hk.same g (by have:=h.vs; omega) fun hm=>by
   rcases h.bls g hm with e | e
   ·exact hn (by simp [e])
   ·omega).trans (h.kept.same g hg hn)⟩
 ·rcases hb g hg with e | e
  ·exact h.bls g e
  ·exact .inr (LG h.vs e)
end
def lenOf:Value→Nat
 | .slice _ n _=>n
 | _=>0
def Ys:Value→Nat
 | .bool true=>1
 | _=>0
theorem X9 {ps:List aE} {c:eQ} {x:dS} (h:endP ps c.src c.ga=some x):zo ps c=x.Mf:=by simp [zo,h]
theorem XI (k:eA) (part:Int) (g:Nat) (w:World) (hf:k.Fit) (hg:k.vb=some ⟨g,0,none⟩∧g < w.heap.size) (h:eA.At w k):
  Calls J3 22 #[.agg k.row,.int .i64 part] w fun e w'=>XW w k.pure part e w':=by
 have S:Hid (dr w w.heap.size k ((w.alloc (.cells k.row 37)).alloc (.cells #[] 2))∧((w.alloc (.cells k.row 37)).alloc (.cells #[] 2)).heap[w.heap.size+1]? =some (.cells #[] 2 (0,0))):=⟨(dr.first h).below ((Kp _ _).alloc (Ki _) _),heap_alloc2_new _ _ _⟩
 have HF:=aA (And.intro hf (And.intro hg h));clear hf hg h
 go_enter Tryz.func22,Tryz.ntmps22
 go_upto_region 2 with fail;generalize (w.alloc (.cells k.row 37)).alloc (.cells #[] 2)=W0 at *;obtain ⟨m0,m1,m2,m3,m4⟩:=S.I.1.box.cells;have Mb:=FO k g W0 HF.I.1 ⟨HF.I.2.1.1,by have:=S.I.1.low.size; have:=HF.I.2.1.2; omega⟩ S.I.1.MT;go_wp2_with fail;clear m0 m1 m2 m3 m4;refine Mb.mono ?_;clear Mb;rintro e W1 ⟨rfl,hb1⟩;replace S:=aA (And.intro (S.I.1.below hb1) ((hb1.block _ (J2.1 S.I.2).1).trans S.I.2));clear hb1;cases hk:eP k.pure
 ·have HN:Hid (Xr k.pure part []):=⟨fun h=>absurd h (by rw [hk]; simp),fun _=>rfl⟩
  clear hk;go_wp2;go_ret;exact ⟨[],some ⟨w.heap.size+1,0,none⟩,0,rfl,i6 S.I.2 (by omega),HN.I,S.I.1.low⟩
 have HK:=aA hk;clear hk;obtain ⟨m0,m1,m2,m3,m4⟩:=S.I.1.box.cells;have Mb:=Ua k part W1 HF.I.1.sC S.I.1.MT;go_wp2_with fail;clear m0 m1 m2 m3 m4;refine Mb.mono ?_;clear Mb;rintro e W2 ⟨rfl,hb1⟩;replace S:=aA (And.intro (S.I.1.below hb1) ((hb1.block _ (J2.1 S.I.2).1).trans S.I.2));clear hb1;have Ye:k.pure.parts.map (·.id)=k.parts.map (·.id):=by rw [show k.pure.parts=k.parts.map (·.pure) from rfl,Lv]; rfl
 rcases ua (num:=fun p:af=>p.id) part k.parts 0 with ⟨h1,h2⟩ | ⟨n,x,h1,hx,hxi,-⟩
 ·have HN:Hid (Xr k.pure part []):=⟨fun _ hm=>by
   rw [Ye] at hm;obtain ⟨y,hy,e⟩:=Lr.1 hm
   have:=List.find?_eq_none.1 h2 y hy
   simp [e] at this,fun _=>rfl⟩
  rw [h1];clear h1 h2 HK Ye;go_wp2;go_ret;exact ⟨[],some ⟨w.heap.size+1,0,none⟩,0,rfl,i6 S.I.2 (by omega),HN.I,S.I.1.low⟩
 have HI:Hid (part∈k.pure.parts.map (·.id)):=by show part∈_; rw [Ye]; exact Lr.2 ⟨x,KA hx,hxi⟩
 rw [h1,Nat.zero_add];have i0: ¬ (n:Int) < 0:=by omega
 clear h1 hx hxi Ye;go_upto_region 5 with fail;clear i0;have hz:Below W2.heap.size W2 (W2.alloc (.cells #[.int .i64 part] 2)):=(Kp _ _).alloc (Ki _) _;have hlt:=(J2.1 S.I.2).1;have HI0:Hid (Xk w k W2.heap.size (w.heap.size+1) [part] (some ⟨W2.heap.size,0,none⟩) 1 (W2.alloc (.cells #[.int .i64 part] 2))∧Xj k.pure part [part]):=⟨⟨(S.I.1.below hz).box,(S.I.1.below hz).low,(hz.block _ hlt).trans S.I.2,World.ownsRow_lit W2 #[.int .i64 part] 1 (Ki _) (by unfold maxLen; omega) rfl,by omega,hlt,hz.size⟩,⟨by simp,by simp,fun i hi=>by rw [KB.1 hi]; exact XA⟩⟩
 clear S hz hlt;generalize W2.alloc (.cells #[.int .i64 part] 2)=W3 at *;generalize W2.heap.size=B at *;go_wp2_with fail
 go_loopw [6,7] (fun i m wr=> ∃ (l:List Int) (a:Option Addr) (cap:Nat) (b:Bool),i= .slice a l.length cap∧m= .bool b∧Hid (Xk w k B (w.heap.size+1) l a cap wr∧Xj k.pure part l∧(b=false→X0 k.eC (zo k.pure.parts) (· ∈l)))) (fun i m _=>2 * (7 - lenOf i)+Ys m)
 case atStart=>exact ⟨[part],some ⟨B,0,none⟩,1,true,rfl,rfl,HI0.I.1,HI0.I.2,fun h=>by cases h⟩
 case round=>
  clear HI0;obtain ⟨l0,a,cap,b,rfl,rfl,S⟩:=hrel;cases b
  ·have HL6:Hid (l0.length≤6):=S.I.2.1.len HK.I HI.I
   have HR:Hid (∀ i,i∈l0↔XT k.pure.eC (zo k.pure.parts) part i):=Yh S.I.2.1.has S.I.2.1.rch (S.I.2.2 rfl);have hpl:k.parts.length≤1048576:=HF.I.1.sC;have S3:Hid (Xf w k (w.heap.size+1) l0 a cap [] (some ⟨w.heap.size+1,0,none⟩) 0 wr wr):=⟨S.I.1.box,S.I.1.low,i6 S.I.1.I (by omega),nP S.I.1.own,aI.refl _ _,fun g hg=> .inl (by simpa [blk] using hg),fun hm=>by have:=(cf S.I.1.own hm).1; have:=S.I.1.b0; omega,S.I.1.b0.1,Ki _,fun g hg=>(cf S.I.1.own hg).2,(J2.1 S.I.1.box).1⟩
   clear S
   rename World=>V1
   go_wp2_with fail
   go_loopw [5,13] (fun i j wr=> ∃ (o:List Int) (ao:Option Addr) (co:Nat) (n:Nat),n≤k.parts.length∧i= .slice ao o.length co∧j= .int .i64 n∧Hid (Xf w k (w.heap.size+1) l0 a cap o ao co V1 wr∧o=((k.parts.map (·.id)).take n).filter (fun i=>decide (i∈l0)))) (fun _ j _=>k.parts.length - (Go.RowKit.intOf j).toNat)
   case atStart=>exact ⟨[],some ⟨w.heap.size+1,0,none⟩,0,0,Ky _,rfl,rfl,S3.I,by simp⟩
   case round=>
    clear S3;obtain ⟨o,ao,co,n,hn,rfl,rfl,S⟩:=hrel;by_cases hlt:n < k.parts.length
    ·have i0:(0:Int)≤(n:Int):=by omega
     have i1:(n:Int) < (k.parts.length:Int):=by omega
     obtain ⟨p,hp⟩: ∃ p,k.parts[n]? =some p:=⟨_,Kz hlt⟩
     have HPN:Hid ((k.parts.map (·.id)).take (n+1)=(k.parts.map (·.id)).take n ++ [p.id]):=cj (by rw [List.getElem?_map,hp]; rfl);obtain ⟨gs,hgs,hin,-⟩:=ic (HF.I.2.2.below S.I.1.low).parts hp;obtain ⟨-,-,-,m3,-⟩:=S.I.1.box.cells;rw [hgs] at m3;have p0:=hin.1;have Mb:=Xq a l0 cap p.id wr (by have:=HL6.I; omega) S.I.1.inn;have HGS:=aA (And.intro hp hgs);clear hp hgs hin;go_wp2_with fail;clear m3 p0;refine Mb.mono ?_;clear Mb;rintro e W1 ⟨rfl,hb⟩;replace S:=aA (And.intro (S.I.1.below hb) S.I.2);clear hb;by_cases hm:p.id∈l0
     ·have qJ:Hid (o.length≤1000):=by
       show o.length≤1000
       rw [S.I.2];have h5:=List.length_filter_le (fun i=>decide (i∈l0)) ((k.parts.map (·.id)).take n);have h6:=(Xo HK.I).2.1;have h7:k.pure.parts.length=k.parts.length:=by simp [eA.pure]
       simp only [Lk,KG] at h5;omega
      obtain ⟨a4,c4,W3,hap,ho,hkp,hbl⟩:=XB p.id S.I.1.own qJ.I (LG S.I.1.xl S.I.1.vs);have HM:Hid (Xf w k (w.heap.size+1) l0 a cap (o ++ [p.id]) a4 c4 V1 W3∧o ++ [p.id] =((k.parts.map (·.id)).take (n+1)).filter (fun i=>decide (i∈l0))):=⟨S.I.1.more ho hkp hbl,by rw [HPN.I,QN,← S.I.2]; simp [hm]⟩
      obtain ⟨gs2,hgs2,hin,-⟩:=ic (HF.I.2.2.below S.I.1.low).parts HGS.I.1;obtain ⟨-,-,-,m3,-⟩:=S.I.1.box.cells;rw [hgs2] at m3;have p0:=hin.1;rw [decide_eq_true hm];clear hm ho hkp hbl hgs2 hin;go_wp2_with (at_builtin; refine br _ rfl _ _ 57 rfl _ _ _ _ rfl rfl hap ?_);go_roundw
      case rel=>exact ⟨o ++ [p.id],a4,c4,n+1,by omega,by simp,by go_num,HM.I.1,HM.I.2⟩
      case measure=>simp [Go.RowKit.intOf]; omega
     ·have HM:Hid (o=((k.parts.map (·.id)).take (n+1)).filter (fun i=>decide (i∈l0))):=by show o=_; rw [HPN.I,QN,← S.I.2]; simp [hm]
      rw [decide_eq_false hm];clear hm;go_wp2;go_roundw
      case rel=>exact ⟨o,ao,co,n+1,by omega,rfl,by go_num,S.I.1,HM.I⟩
      case measure=>simp [Go.RowKit.intOf]; omega
    ·have i1: ¬ (n:Int) < (k.parts.length:Int):=by omega
     obtain ⟨-,-,-,m3,-⟩:=S.I.1.box.cells;have HE:Hid (Xr k.pure part o):=by
      have Ye:k.pure.parts.map (·.id)=k.parts.map (·.id):=by rw [show k.pure.parts=k.parts.map (·.pure) from rfl,Lv]; rfl
      have h5:=S.I.2;rw [KF (by simp; omega)] at h5;refine ⟨fun _ _=>⟨fun i=> ?_,?_⟩,fun h=> ?_⟩
      ·rw [h5,List.mem_filter,← HR.I i,decide_eq_true_eq]
       exact ⟨fun h=>h.2,fun h=>⟨by rw [← Ye]; exact XY HK.I HI.I ((HR.I i).1 h),h⟩⟩
      ·rw [h5,← Ye]
       exact (Xo HK.I).1.filter _
      ·rcases h with h | h
       ·rw [HK.I] at h; cases h
       ·exact absurd HI.I h
     go_wp2;go_ret;exact ⟨o,ao,co,rfl,cq S.I.1.own (by omega),HE.I,S.I.1.low⟩
  ·rename World=>V1
   go_wp2_with fail
   go_loopw [6,7,8] (fun i m j wr=> ∃ (l:List Int) (a:Option Addr) (cap:Nat) (b:Bool) (n:Nat),n≤k.eC.length∧i= .slice a l.length cap∧m= .bool b∧j= .int .i64 n∧Hid (Xk w k B (w.heap.size+1) l a cap wr∧Xj k.pure part l∧Xy k.pure n b l0 l)) (fun _ _ j _=>k.eC.length - (Go.RowKit.intOf j).toNat)
   case atStart=>exact ⟨l0,a,cap,false,0,Ky _,rfl,rfl,rfl,S.I.1,S.I.2.1,Ya⟩
   case round=>
    obtain ⟨l,a1,Xv,b,n,hn,rfl,rfl,rfl,S2⟩:=hrel;clear S;have S:=S2;clear S2;have hcl:k.eC.length≤1048576:=HF.I.1.w8;by_cases hlt:n < k.eC.length
    ·have i0:(0:Int)≤(n:Int):=by omega
     have i1:(n:Int) < (k.eC.length:Int):=by omega
     obtain ⟨c,hc⟩: ∃ c,k.eC[n]? =some c:=⟨_,Kz hlt⟩
     have HC:Hid (k.pure.eC[n]? =some c∧c∈k.pure.eC):=⟨hc,KA hc⟩
     obtain ⟨gc,hgc,c0,c1,c2,c3⟩:=TH (S.I.1.ks HF.I.2.2).MT.eC hc;obtain ⟨-,-,-,-,m4⟩:=S.I.1.box.cells;rw [hgc] at m4;clear hgc hc;go_upto_region 12 with fail;clear c0 c1 c2 c3 m4;have hz:Below wr.heap.size wr (wr.alloc (.cells (nx c) 80)):=(Kp _ _).alloc (Ki _) _;have HX:Hid (P1 (wr.alloc (.cells (nx c) 80)) wr.heap.size c):=heap_alloc_new _ _;have HXB:Hid (∀ g∈blk a1,g≠wr.heap.size):=fun g hg=>by have:=(cf S.I.1.own hg).2; omega
     replace S:=aA (And.intro (S.I.1.below hz) S.I.2);clear hz;generalize wr.alloc (.cells (nx c) 80)=W4 at *;generalize wr.heap.size=X at *;obtain ⟨m0,m1,m2,m3,m4⟩:=S.I.1.box.cells;obtain ⟨c0,c1,c2,c3⟩:=HX.I.cells;have Mb:=TB k c.src c.ga W4 HF.I.1 (S.I.1.ks HF.I.2.2).MT;go_wp2_with fail;clear m0 m1 m2 m3 m4 c0 c1 c2 c3;refine Mb.mono ?_;clear Mb;rintro e W5 ⟨rfl,hb⟩;replace S:=aA (And.intro (S.I.1.below hb) S.I.2);replace HX:=aA (HX.I.below hb);clear hb;have hch:=(Xo HK.I).2.2.2 c HC.I.2;have hnn: ¬ n0 k.parts c.src c.ga < 0:=fun hneg=>by
      have h5:endP k.pure.parts c.src c.ga=none:=Ty hneg;unfold pa at hch;rw [h5] at hch;simp at hch
     obtain ⟨n1,p1,VX,x1,e1,hp1,-,e2,hx1,en1⟩:=Tw hnn;have HQ:Hid (zo k.pure.parts c=x1.Mf):=X9 en1;rw [e1,e2];obtain ⟨gs,hgs,hin,hat⟩:=ic (S.I.1.ks HF.I.2.2).MT.parts hp1;obtain ⟨gp,l9,hpa⟩:=lm hat.2.2.2.2.2 hx1;obtain ⟨-,-,-,m3,-⟩:=S.I.1.box.cells;have VZ:=hin.2.2.2.2.2.2.2;have p2:=hpa.2.2.1;rw [hgs] at m3;rw [l9] at VZ;have j0:(0:Int)≤(n1:Int):=by omega
     have j1:(n1:Int) < (k.parts.length:Int):=by have:=(Lj.1 hp1).1; omega
     have j2:(0:Int)≤(VX:Int):=by omega
     have Xg:(VX:Int) < (p1.ai.length:Int):=by have:=(Lj.1 hx1).1; omega
     clear hch hnn e1 e2 hp1 hx1 en1 hgs hin hat l9 hpa;obtain ⟨c0,c1,c2,c3⟩:=HX.I.cells;have DM:Hid (l.length≤6):=S.I.2.1.len HK.I HI.I;have Mb:=Xq a1 l Xv c.dst W5 (by have:=DM.I; omega) (nP S.I.1.own);go_wp2_with fail;clear m3 VZ p2 j0 j1 j2 Xg c0 c1 c2 c3;refine Mb.mono ?_;clear Mb;rintro e W6 ⟨rfl,hb⟩;replace S:=aA (And.intro (S.I.1.below hb) S.I.2);replace HX:=aA (HX.I.below hb);clear hb;by_cases hd:c.dst∈l
     ·have Mb:=Xq a1 l Xv c.src W6 (by have:=DM.I; omega) (nP S.I.1.own)
      obtain ⟨c0,c1,c2,c3⟩:=HX.I.cells;rw [decide_eq_true hd];go_wp2_with fail;clear c0 c1 c2 c3;refine Mb.mono ?_;clear Mb;rintro e W7 ⟨rfl,hb⟩;replace S:=aA (And.intro (S.I.1.below hb) S.I.2);replace HX:=aA (HX.I.below hb);clear hb;by_cases hs:c.src∈l
      ·replace S:Hid (Xk w k B (w.heap.size+1) l a1 Xv W7∧Xj k.pure part l∧Xy k.pure n b l0 l∧(c.dst∈l→c.src∈l)):=⟨S.I.1,S.I.2.1,S.I.2.2,fun _=>hs⟩
       rw [decide_eq_true hs];clear hs hd DM;go_upto_region 17 with fail;have DM:Hid (l.length≤6):=S.I.2.1.len HK.I HI.I;cases hq:x1.Mf
       ·have HM:Hid (Xk w k B (w.heap.size+1) l a1 Xv _∧Xj k.pure part l∧Xy k.pure (n+1) _ l0 l):=⟨S.I.1,S.I.2.1,Xu S.I.2.2.1 HC.I.1 S.I.2.2.2 (fun h=>by rw [HQ.I,hq] at h; cases h)⟩
        clear hq;go_wp2;go_roundw
        case rel=>exact ⟨l,a1,Xv,_,n+1,by omega,rfl,rfl,by go_num,HM.I⟩
        case measure=>simp [Go.RowKit.intOf]; omega
       have Ck:Hid (zo k.pure.parts c=true):=HQ.I.trans hq;clear hq;have Mb:=Xq a1 l Xv c.src _ (by have:=DM.I; omega) (nP S.I.1.own);obtain ⟨c0,c1,c2,c3⟩:=HX.I.cells;go_wp2_with fail;clear c0 c1 c2 c3;refine Mb.mono ?_;clear Mb;rintro e W9 ⟨rfl,hb⟩;replace S:=aA (And.intro (S.I.1.below hb) S.I.2);replace HX:=aA (HX.I.below hb);clear hb;by_cases hs:c.src∈l
       case neg=>
        have HM:Hid (Xk w k B (w.heap.size+1) l a1 Xv W9∧Xj k.pure part l∧Xy k.pure (n+1) _ l0 l):=⟨S.I.1,S.I.2.1,Xu S.I.2.2.1 HC.I.1 S.I.2.2.2 (fun _ h=>absurd h hs)⟩
        rw [decide_eq_false hs];clear hs;go_wp2;go_roundw
        case rel=>exact ⟨l,a1,Xv,_,n+1,by omega,rfl,rfl,by go_num,HM.I.1,HM.I.2⟩
        case measure=>simp [Go.RowKit.intOf]; omega
       have Mb:=Xq a1 l Xv c.dst W9 (by have:=DM.I; omega) (nP S.I.1.own);obtain ⟨c0,c1,c2,c3⟩:=HX.I.cells;rw [decide_eq_true hs];go_wp2_with fail;clear c0 c1 c2 c3;refine Mb.mono ?_;clear Mb;rintro e W10 ⟨rfl,hb⟩;replace S:=aA (And.intro (S.I.1.below hb) S.I.2);replace HX:=aA (HX.I.below hb);clear hb;by_cases hd:c.dst∈l
       ·have HM:Hid (Xk w k B (w.heap.size+1) l a1 Xv W10∧Xj k.pure part l∧Xy k.pure (n+1) _ l0 l):=⟨S.I.1,S.I.2.1,Xu S.I.2.2.1 HC.I.1 S.I.2.2.2 (fun _ _=>hd)⟩
        rw [decide_eq_true hd];clear hs hd;go_wp2;go_roundw
        case rel=>exact ⟨l,a1,Xv,_,n+1,by omega,rfl,rfl,by go_num,HM.I.1,HM.I.2⟩
        case measure=>simp [Go.RowKit.intOf]; omega
       ·obtain ⟨a4,XM,Yt,hap,ho,hkp,-⟩:=XB c.dst S.I.1.own (by have:=DM.I; omega) S.I.1.b0.2.2
        have HM:Hid (Xk w k B (w.heap.size+1) (l ++ [c.dst]) a4 XM Yt∧Xj k.pure part (l ++ [c.dst])∧Xy k.pure (n+1) true l0 (l ++ [c.dst])):=⟨S.I.1.more ho hkp,S.I.2.1.dst HC.I.2 Ck.I hs hd,XJ S.I.2.2.1 _⟩
        rw [decide_eq_false hd];clear ho hkp hs hd;obtain ⟨c0,c1,c2,c3⟩:=HX.I.cells;go_wp2_with (at_builtin; refine br _ rfl _ _ 57 rfl _ _ _ _ rfl rfl hap ?_);go_roundw
        case rel=>exact ⟨l ++ [c.dst],a4,XM,true,n+1,by omega,by simp,rfl,by go_num,HM.I.1,HM.I.2⟩
        case measure=>simp [Go.RowKit.intOf]; omega
      ·obtain ⟨a2,Ta,W8,hap,ho8,hk8,hbl8⟩:=XB c.src S.I.1.own (by have:=DM.I; omega) S.I.1.b0.2.2
       have hxl:=(J2.1 HX.I).1;have HX8:Hid (P1 W8 X c):=(hk8.same X hxl fun hm=>HXB.I X hm rfl).trans HX.I;replace HXB:Hid (∀ g∈blk a2,g≠X):=fun g hg=>by
        rcases hbl8 g hg with h5 | h5
        ·exact HXB.I g h5
        ·omega
       obtain ⟨Xl,Jy⟩: ∃ Xl,l ++ [c.src] =Xl:=⟨_,rfl⟩
       have Xe:Hid (Xk w k B (w.heap.size+1) Xl a2 Ta W8∧Xj k.pure part Xl∧Xy k.pure n true l0 Xl∧(c.dst∈Xl→c.src∈Xl)):=by rw [← Jy]; exact ⟨S.I.1.more ho8 hk8,S.I.2.1.src HC.I.2 hd hs,XJ S.I.2.2 _,fun _=>by simp⟩
       have hn9:l.length+1=Xl.length:=by rw [← Jy]; simp
       rw [decide_eq_false hs];clear ho8 hk8 hbl8 hs hd Jy hxl DM;obtain ⟨c0,c1,c2,c3⟩:=HX.I.cells;go_upto_region 17 with (at_builtin; refine br _ rfl _ _ 57 rfl _ _ _ _ rfl rfl hap ?_)
       try rw [hn9]
       clear hn9 S hap c0 c1 c2 c3 HX;have S:=Xe;have HX:=HX8;clear Xe HX8;have DM:Hid (Xl.length≤6):=S.I.2.1.len HK.I HI.I;cases hq:x1.Mf
       ·have HM:Hid (Xk w k B (w.heap.size+1) Xl a2 Ta _∧Xj k.pure part Xl∧Xy k.pure (n+1) _ l0 Xl):=⟨S.I.1,S.I.2.1,Xu S.I.2.2.1 HC.I.1 S.I.2.2.2 (fun h=>by rw [HQ.I,hq] at h; cases h)⟩
        clear hq;go_wp2;go_roundw
        case rel=>exact ⟨Xl,a2,Ta,_,n+1,by omega,rfl,rfl,by go_num,HM.I⟩
        case measure=>simp [Go.RowKit.intOf]; omega
       have Ck:Hid (zo k.pure.parts c=true):=HQ.I.trans hq;clear hq;have Mb:=Xq a2 Xl Ta c.src _ (by have:=DM.I; omega) (nP S.I.1.own);obtain ⟨c0,c1,c2,c3⟩:=HX.I.cells;go_wp2_with fail;clear c0 c1 c2 c3;refine Mb.mono ?_;clear Mb;rintro e W9 ⟨rfl,hb⟩;replace S:=aA (And.intro (S.I.1.below hb) S.I.2);replace HX:=aA (HX.I.below hb);clear hb;by_cases hs:c.src∈Xl
       case neg=>
        have HM:Hid (Xk w k B (w.heap.size+1) Xl a2 Ta W9∧Xj k.pure part Xl∧Xy k.pure (n+1) _ l0 Xl):=⟨S.I.1,S.I.2.1,Xu S.I.2.2.1 HC.I.1 S.I.2.2.2 (fun _ h=>absurd h hs)⟩
        rw [decide_eq_false hs];clear hs;go_wp2;go_roundw
        case rel=>exact ⟨Xl,a2,Ta,_,n+1,by omega,rfl,rfl,by go_num,HM.I.1,HM.I.2⟩
        case measure=>simp [Go.RowKit.intOf]; omega
       have Mb:=Xq a2 Xl Ta c.dst W9 (by have:=DM.I; omega) (nP S.I.1.own);obtain ⟨c0,c1,c2,c3⟩:=HX.I.cells;rw [decide_eq_true hs];go_wp2_with fail;clear c0 c1 c2 c3;refine Mb.mono ?_;clear Mb;rintro e W10 ⟨rfl,hb⟩;replace S:=aA (And.intro (S.I.1.below hb) S.I.2);replace HX:=aA (HX.I.below hb);clear hb;by_cases hd:c.dst∈Xl
       ·have HM:Hid (Xk w k B (w.heap.size+1) Xl a2 Ta W10∧Xj k.pure part Xl∧Xy k.pure (n+1) _ l0 Xl):=⟨S.I.1,S.I.2.1,Xu S.I.2.2.1 HC.I.1 S.I.2.2.2 (fun _ _=>hd)⟩
        rw [decide_eq_true hd];clear hs hd;go_wp2;go_roundw
        case rel=>exact ⟨Xl,a2,Ta,_,n+1,by omega,rfl,rfl,by go_num,HM.I.1,HM.I.2⟩
        case measure=>simp [Go.RowKit.intOf]; omega
       ·obtain ⟨a4,XM,Yt,hap,ho,hkp,-⟩:=XB c.dst S.I.1.own (by have:=DM.I; omega) S.I.1.b0.2.2
        have HM:Hid (Xk w k B (w.heap.size+1) (Xl ++ [c.dst]) a4 XM Yt∧Xj k.pure part (Xl ++ [c.dst])∧Xy k.pure (n+1) true l0 (Xl ++ [c.dst])):=⟨S.I.1.more ho hkp,S.I.2.1.dst HC.I.2 Ck.I hs hd,XJ S.I.2.2.1 _⟩
        rw [decide_eq_false hd];clear ho hkp hs hd;obtain ⟨c0,c1,c2,c3⟩:=HX.I.cells;go_wp2_with (at_builtin; refine br _ rfl _ _ 57 rfl _ _ _ _ rfl rfl hap ?_);go_roundw
        case rel=>exact ⟨Xl ++ [c.dst],a4,XM,true,n+1,by omega,by simp,rfl,by go_num,HM.I.1,HM.I.2⟩
        case measure=>simp [Go.RowKit.intOf]; omega
     ·replace S:Hid (Xk w k B (w.heap.size+1) l a1 Xv W6∧Xj k.pure part l∧Xy k.pure n b l0 l∧(c.dst∈l→c.src∈l)):=⟨S.I.1,S.I.2.1,S.I.2.2,fun h=>absurd h hd⟩
      rw [decide_eq_false hd];clear hd DM;go_upto_region 17 with fail;have DM:Hid (l.length≤6):=S.I.2.1.len HK.I HI.I;cases hq:x1.Mf
      ·have HM:Hid (Xk w k B (w.heap.size+1) l a1 Xv _∧Xj k.pure part l∧Xy k.pure (n+1) _ l0 l):=⟨S.I.1,S.I.2.1,Xu S.I.2.2.1 HC.I.1 S.I.2.2.2 (fun h=>by rw [HQ.I,hq] at h; cases h)⟩
       clear hq;go_wp2;go_roundw
       case rel=>exact ⟨l,a1,Xv,_,n+1,by omega,rfl,rfl,by go_num,HM.I⟩
       case measure=>simp [Go.RowKit.intOf]; omega
      have Ck:Hid (zo k.pure.parts c=true):=HQ.I.trans hq;clear hq;have Mb:=Xq a1 l Xv c.src _ (by have:=DM.I; omega) (nP S.I.1.own);obtain ⟨c0,c1,c2,c3⟩:=HX.I.cells;go_wp2_with fail;clear c0 c1 c2 c3;refine Mb.mono ?_;clear Mb;rintro e W9 ⟨rfl,hb⟩;replace S:=aA (And.intro (S.I.1.below hb) S.I.2);replace HX:=aA (HX.I.below hb);clear hb;by_cases hs:c.src∈l
      case neg=>
       have HM:Hid (Xk w k B (w.heap.size+1) l a1 Xv W9∧Xj k.pure part l∧Xy k.pure (n+1) _ l0 l):=⟨S.I.1,S.I.2.1,Xu S.I.2.2.1 HC.I.1 S.I.2.2.2 (fun _ h=>absurd h hs)⟩
       rw [decide_eq_false hs];clear hs;go_wp2;go_roundw
       case rel=>exact ⟨l,a1,Xv,_,n+1,by omega,rfl,rfl,by go_num,HM.I.1,HM.I.2⟩
       case measure=>simp [Go.RowKit.intOf]; omega
      have Mb:=Xq a1 l Xv c.dst W9 (by have:=DM.I; omega) (nP S.I.1.own);obtain ⟨c0,c1,c2,c3⟩:=HX.I.cells;rw [decide_eq_true hs];go_wp2_with fail;clear c0 c1 c2 c3;refine Mb.mono ?_;clear Mb;rintro e W10 ⟨rfl,hb⟩;replace S:=aA (And.intro (S.I.1.below hb) S.I.2);replace HX:=aA (HX.I.below hb);clear hb;by_cases hd:c.dst∈l
      ·have HM:Hid (Xk w k B (w.heap.size+1) l a1 Xv W10∧Xj k.pure part l∧Xy k.pure (n+1) _ l0 l):=⟨S.I.1,S.I.2.1,Xu S.I.2.2.1 HC.I.1 S.I.2.2.2 (fun _ _=>hd)⟩
       rw [decide_eq_true hd];clear hs hd;go_wp2;go_roundw
       case rel=>exact ⟨l,a1,Xv,_,n+1,by omega,rfl,rfl,by go_num,HM.I.1,HM.I.2⟩
       case measure=>simp [Go.RowKit.intOf]; omega
      ·obtain ⟨a4,XM,Yt,hap,ho,hkp,-⟩:=XB c.dst S.I.1.own (by have:=DM.I; omega) S.I.1.b0.2.2
       have HM:Hid (Xk w k B (w.heap.size+1) (l ++ [c.dst]) a4 XM Yt∧Xj k.pure part (l ++ [c.dst])∧Xy k.pure (n+1) true l0 (l ++ [c.dst])):=⟨S.I.1.more ho hkp,S.I.2.1.dst HC.I.2 Ck.I hs hd,XJ S.I.2.2.1 _⟩
       rw [decide_eq_false hd];clear ho hkp hs hd;obtain ⟨c0,c1,c2,c3⟩:=HX.I.cells;go_wp2_with (at_builtin; refine br _ rfl _ _ 57 rfl _ _ _ _ rfl rfl hap ?_);go_roundw
       case rel=>exact ⟨l ++ [c.dst],a4,XM,true,n+1,by omega,by simp,rfl,by go_num,HM.I.1,HM.I.2⟩
       case measure=>simp [Go.RowKit.intOf]; omega
    ·have i1: ¬ (n:Int) < (k.eC.length:Int):=by omega
     obtain ⟨-,-,-,-,m4⟩:=S.I.1.box.cells;have HE:Hid (Xk w k B (w.heap.size+1) l a1 Xv wr∧Xj k.pure part l∧(b=false→X0 k.eC (zo k.pure.parts) (· ∈l))∧2 * (7 - l.length)+(if b=true then 1 else 0) < 2 * (7 - l0.length)+1):=by
      have h6:=S.I.2.1.len HK.I HI.I;refine ⟨S.I.1,S.I.2.1,fun hm=> ?_,?_⟩
      ·have h7:=(S.I.2.2.2 hm).2
       rwa [KF (by show k.eC.length≤n; omega)] at h7
      ·cases b
       ·rw [(S.I.2.2.2 rfl).1]; simp
       ·have:=S.I.2.2.1 rfl; simp; omega
     go_wp2;go_roundw
     case rel=>exact ⟨l,a1,Xv,b,rfl,rfl,HE.I.1,HE.I.2.1,HE.I.2.2.1⟩
     case measure=>have h9:=HE.I.2.2.2; cases b <;> simpa [lenOf,Ys] using h9
end
section
open Go.RowKit
attribute [local go_sem ↓] Kc Kd
def eo (x:aM):Nat:=4+aF (fun _:ByteArray=>1) x.Ma
def fU (k:Int) (x:aM):aM:= { x with id:=k,I:=(k+1) % 3 == 0,Mf:=(k+1+1) % 3 == 0,max:=k+1+1+1,Ma:=aJ mkStr (fun _=>1) (k+1+1+1+1) x.Ma }
theorem AU (a:Option Addr) (l:List aM) (cap:Nat) (k:Int) (w:World) (base:Nat) (hl:l.length≤1048576) (hk: ∀ x∈l,x.Ma.length≤1048576) (h0:1≤k) (h1:k+(aF eo l:Nat)≤90000000) (ho:w.ownsRow base 85 5 (.slice a l.length cap) l.length (bX.flat l)) (hm: ∀ x∈l,aU.cO w base x) (hn:(blk a ++ l.filterMap aU.bt).Nodup):
  Calls J3 62 #[.slice a l.length cap,.int .i64 k] w fun e w'=>e= .returned (.int .i64 (k+(aF eo l:Nat)))∧w'.ownsRow base 85 5 (.slice a l.length cap) l.length (bX.flat (aJ fU eo k l))∧(∀ y∈aJ fU eo k l,aU.cO w' base y)∧aI w w' (blk a ++ l.filterMap aU.bt):=by
 by_cases hz:l.length=0
 ·have hl0:l= [] :=List.eq_nil_of_length_eq_zero hz
  subst hl0;have HO:Hid (w.ownsRow base 85 5 (.slice a 0 cap) 0 (bX.flat [])):=ho;clear ho
  go_enter Tryz.func62,Tryz.ntmps62
  go_wp2_with fail
  go_loopw [1,5] (fun q i wr=>q= .int .i64 k∧i= .int .i64 0∧wr=w) (fun _ _ _=>0)
  case atStart=>exact ⟨rfl,rfl,rfl⟩
  case round=>
   obtain ⟨rfl,rfl,rfl⟩:=hrel;go_wp2;go_ret;exact ⟨ck (by simp [aF]),HO.I,(fun y hy=>by cases hy),aI.refl _ _⟩
 obtain ⟨g,rfl,hrow⟩:=bl.fX (K:=bX) ho hz;have HR:Hid (bl bX 85 w base g cap l∧fp aU w base g l):=⟨hrow,hm,hn⟩
 have HB:Hid (k+(aF eo l:Nat)≤90000000∧ ∀ x∈l,x.Ma.length≤1048576):=⟨h1,hk⟩
 clear ho hrow h1 hz hm hn hk
 go_enter Tryz.func62,Tryz.ntmps62
 go_wp2_with fail
 go_loopw [1,5] (fun q i wr=> ∃ (j:Nat) (m:Int),j≤l.length∧i= .int .i64 j∧q= .int .i64 m∧1≤m∧m≤90000000∧Hid (m=k+(aF eo (l.take j):Nat)∧bl bX 85 wr base g cap (aJ fU eo k (l.take j) ++ l.drop j)∧fp aU wr base g (aJ fU eo k (l.take j) ++ l.drop j)∧aI w wr (g :: l.filterMap aU.bt))) (fun _ i _=>l.length - (intOf i).toNat)
 case atStart=>exact ⟨0,k,Ky _,rfl,rfl,h0,by have:=HB.I.1; omega,⟨by simp [aF],HR.I.1,HR.I.2,aI.refl _ _⟩⟩
 case round=>
  clear HR;obtain ⟨j,m,hj,rfl,rfl,m0,m1,HA⟩:=hrel;by_cases hlt:j < l.length
  ·have i0:(0:Int)≤(j:Int):=by omega
   have i1:(j:Int) < (l.length:Int):=by omega
   obtain ⟨x,hx⟩: ∃ x,l[j]? =some x:=⟨_,Kz hlt⟩
   have pI:l.drop j=x :: l.drop (j+1):=mz hx;have qw:=du (c:=eo) hx;have hup:=gK (c:=eo) hx;have hcx:eo x=4+aF (fun _:ByteArray=>1) x.Ma:=rfl;have HX:Hid (l[j]? =some x∧x.Ma.length≤1048576∧m+1+1+1+1+(aF (fun _:ByteArray=>1) x.Ma:Nat)≤90000000∧m+1+1+1+1+(aF (fun _:ByteArray=>1) x.Ma:Nat)=k+(aF eo (l.take (j+1)):Nat)):=⟨hx,HB.I.2 x (KA hx),by have:=HB.I.1; have:=HA.I.1; omega,by have:=HA.I.1; omega⟩
   have HW:Hid (bl bX 85 wr base g cap (aJ fU eo k (l.take j) ++ x :: l.drop (j+1))∧(aJ fU eo k (l.take j)).length=j):=⟨by have:=HA.I.2.1; rwa [pI] at this,by rw [bE,Lk]; omega⟩
   have HM:Hid (fp aU wr base g (aJ fU eo k (l.take j) ++ x :: l.drop (j+1))):=by have:=HA.I.2.2.1; rwa [pI] at this
   have m2:m+1+1+1+1≤90000000:=by have:=HX.I.2.2.1; omega
   have hgl:g < wr.heap.size:=HW.I.1.lt;clear hx pI qw hup hcx;have q0:=bl.eO HW.I.1 HW.I.2 (r:=0) (by decide:0 < bX.n);obtain ⟨⟨u0,c0⟩,f0⟩:(∃ u,wr.cell? ⟨g,j * 5,none⟩=some u)∧wr.frozen? ⟨g,j * 5,none⟩=false:=q0;have q1:=bl.eO HW.I.1 HW.I.2 (r:=1) (by decide:1 < bX.n);obtain ⟨⟨u1,c1⟩,f1⟩:(∃ u,wr.cell? ⟨g,j * 5+1,none⟩=some u)∧wr.frozen? ⟨g,j * 5+1,none⟩=false:=q1;have q2:=bl.eO HW.I.1 HW.I.2 (r:=2) (by decide:2 < bX.n);obtain ⟨⟨u2,c2⟩,f2⟩:(∃ u,wr.cell? ⟨g,j * 5+2,none⟩=some u)∧wr.frozen? ⟨g,j * 5+2,none⟩=false:=q2;have q3:=bl.eO HW.I.1 HW.I.2 (r:=3) (by decide:3 < bX.n);obtain ⟨⟨u3,c3⟩,f3⟩:(∃ u,wr.cell? ⟨g,j * 5+3,none⟩=some u)∧wr.frozen? ⟨g,j * 5+3,none⟩=false:=q3;have c2:wr.cell? ⟨g,j * 5+4,none⟩=some (.slice x.ak x.Ma.length x.aq):=(bl.uD HW.I.1 HW.I.2 (r:=4) (by decide:4 < bX.n))
   have h5:=bl.part (K:=bX) (x:=x) (y:=({ x with id:=m,I:=(m+1) % 3 == 0,Mf:=(m+1+1) % 3 == 0,max:=m+1+1+1 } :aM)) (j:=0) (vs:= [.int .i64 (m),.bool ((m+1) % 3 == 0),.bool ((m+1+1) % 3 == 0),.int .i64 (m+1+1+1)]) HW.I.1 (by show 0+4≤5; omega) (fun r hr=>by match r,hr with | 0,_=>rfl | 1,_=>rfl | 2,_=>rfl | 3,_=>rfl) (fun r hr hn=>by match r,hr,hn with | 0,_,hn=>exact absurd ⟨by omega,by show 0 < 0+4; omega⟩ hn | 1,_,hn=>exact absurd ⟨by omega,by show 1 < 0+4; omega⟩ hn | 2,_,hn=>exact absurd ⟨by omega,by show 2 < 0+4; omega⟩ hn | 3,_,hn=>exact absurd ⟨by omega,by show 3 < 0+4; omega⟩ hn | 4,_,_=>rfl);rw [HW.I.2,show bX.n=5 from rfl] at h5;have h6:aI wr (bn wr g (j * 5) [.int .i64 (m),.bool ((m+1) % 3 == 0),.bool ((m+1+1) % 3 == 0),.int .i64 (m+1+1+1)]) [g] :=aI.set _ (by simp);simp only [bn,PT,Nat.add_assoc,Nat.reduceAdd] at h5 h6;have HS:Hid (bl bX 85 ((((wr.setCell ⟨g,j * 5,none⟩ (.int .i64 (m))).setCell ⟨g,j * 5+1,none⟩ (.bool ((m+1) % 3 == 0))).setCell ⟨g,j * 5+2,none⟩ (.bool ((m+1+1) % 3 == 0))).setCell ⟨g,j * 5+3,none⟩ (.int .i64 (m+1+1+1))) base g cap (aJ fU eo k (l.take j) ++ ({ x with id:=m,I:=(m+1) % 3 == 0,Mf:=(m+1+1) % 3 == 0,max:=m+1+1+1 } :aM) :: l.drop (j+1))∧fp aU ((((wr.setCell ⟨g,j * 5,none⟩ (.int .i64 (m))).setCell ⟨g,j * 5+1,none⟩ (.bool ((m+1) % 3 == 0))).setCell ⟨g,j * 5+2,none⟩ (.bool ((m+1+1) % 3 == 0))).setCell ⟨g,j * 5+3,none⟩ (.int .i64 (m+1+1+1))) base g (aJ fU eo k (l.take j) ++ ({ x with id:=m,I:=(m+1) % 3 == 0,Mf:=(m+1+1) % 3 == 0,max:=m+1+1+1 } :aM) :: l.drop (j+1))∧aI w ((((wr.setCell ⟨g,j * 5,none⟩ (.int .i64 (m))).setCell ⟨g,j * 5+1,none⟩ (.bool ((m+1) % 3 == 0))).setCell ⟨g,j * 5+2,none⟩ (.bool ((m+1+1) % 3 == 0))).setCell ⟨g,j * 5+3,none⟩ (.int .i64 (m+1+1+1))) (g :: l.filterMap aU.bt)):=⟨h5,(HM.I.keep h6).ju rfl ((HM.I.keep h6).mine x (by simp)),HA.I.2.2.2.trans (h6.mono (by simp))⟩
   clear h5 h6;go_wp2_with fail;generalize (((wr.setCell ⟨g,j * 5,none⟩ (.int .i64 (m))).setCell ⟨g,j * 5+1,none⟩ (.bool ((m+1) % 3 == 0))).setCell ⟨g,j * 5+2,none⟩ (.bool ((m+1+1) % 3 == 0))).setCell ⟨g,j * 5+3,none⟩ (.int .i64 (m+1+1+1))=W1 at *;refine (uu x.ak x.Ma x.aq (m+1+1+1+1) W1 base HX.I.2.1 (by omega) HX.I.2.2.1 (HS.I.2.1.mine ({ x with id:=m,I:=(m+1) % 3 == 0,Mf:=(m+1+1) % 3 == 0,max:=m+1+1+1 } :aM) (by simp))).mono ?_;rintro e v ⟨rfl,hown,hkb⟩;have HV:Hid (bl bX 85 v base g cap (aJ fU eo k (l.take (j+1)) ++ l.drop (j+1))∧fp aU v base g (aJ fU eo k (l.take (j+1)) ++ l.drop (j+1))∧aI w v (g :: l.filterMap aU.bt)):=by
    have hap:=HS.I.2.1.apart (z:=({ x with id:=m,I:=(m+1) % 3 == 0,Mf:=(m+1+1) % 3 == 0,max:=m+1+1+1 } :aM)) (by simp);rw [kE HX.I.1,Lm,← HA.I.1];have h7:=HS.I.1.same (hkb.same g HS.I.1.lt hap);have hm7:aU.cO v base (fU m x):=by
     show v.ownsRow base _ 1 (.slice x.ak (aJ mkStr (fun _=>1) (m+1+1+1+1) x.Ma).length x.aq) (aJ mkStr (fun _=>1) (m+1+1+1+1) x.Ma).length (bT.flat (aJ mkStr (fun _=>1) (m+1+1+1+1) x.Ma))
     rw [bE];exact hown
    refine ⟨?_,HS.I.2.1.inner hkb rfl hm7,HS.I.2.2.trans (hkb.mono fun b hb=> ?_)⟩
    ·exact bl.part (K:=bX) (x:=({ x with id:=m,I:=(m+1) % 3 == 0,Mf:=(m+1+1) % 3 == 0,max:=m+1+1+1 } :aM)) (y:=fU m x) (j:=0) (vs:= []) h7 (by show 0+0≤5; omega) (fun r hr=>absurd hr (by simp)) (fun r hr _=>by match r,hr with | 0,_=>rfl | 1,_=>rfl | 2,_=>rfl | 3,_=>rfl | 4,_=>(show some (Value.slice x.ak (aJ mkStr (fun _=>1) (m+1+1+1+1) x.Ma).length x.aq)=some (.slice x.ak x.Ma.length x.aq); rw [bE]))
    ·exact LB _ (Lq.2 ⟨x,KA HX.I.1,fZ.1 hb⟩)
   clear hown hkb HS;have m3:m+1+1+1+1+(aF (fun _:ByteArray=>1) x.Ma:Nat)≤90000000:=HX.I.2.2.1;go_wp2;go_roundw
   case rel=>exact ⟨j+1,m+1+1+1+1+(aF (fun _:ByteArray=>1) x.Ma:Nat),by omega,by go_num,rfl,by omega,by omega,⟨HX.I.2.2.2,HV.I.1,HV.I.2.1,HV.I.2.2⟩⟩
   case measure=>simp [intOf]; omega
  ·have i1: ¬ (j:Int) < (l.length:Int):=by omega
   have ej:j=l.length:=by omega
   subst ej;have HE:Hid (bl bX 85 wr base g cap (aJ fU eo k l)∧fp aU wr base g (aJ fU eo k l)∧m=k+(aF eo l:Nat)):=by have h5:=HA.I.2.1; have h6:=HA.I.1; have h7:=HA.I.2.2.1; rw [LQ,List.drop_length,QO] at h5 h7; rw [LQ] at h6; exact ⟨h5,h7,h6⟩
   go_wp2;go_ret;refine ⟨ck HE.I.2.2,?_,HE.I.2.1.mine,HA.I.2.2.2⟩;have h7:=HE.I.1.owns;rw [bE] at h7;exact h7
def bN (x:au):Nat:=2+aF (fun _:ByteArray=>1) x.Ma
def dy (k:Int) (x:au):au:= { x with id:=k,max:=k+1,Ma:=aJ mkStr (fun _=>1) (k+1+1) x.Ma }
theorem wX (a:Option Addr) (l:List au) (cap:Nat) (k:Int) (w:World) (base:Nat) (hl:l.length≤1048576) (hk: ∀ x∈l,x.Ma.length≤1048576) (h0:1≤k) (h1:k+(aF bN l:Nat)≤90000000) (ho:w.ownsRow base 160 3 (.slice a l.length cap) l.length (bm.flat l)) (hm: ∀ x∈l,aC.cO w base x) (hn:(blk a ++ l.filterMap aC.bt).Nodup):
  Calls J3 61 #[.slice a l.length cap,.int .i64 k] w fun e w'=>e= .returned (.int .i64 (k+(aF bN l:Nat)))∧w'.ownsRow base 160 3 (.slice a l.length cap) l.length (bm.flat (aJ dy bN k l))∧(∀ y∈aJ dy bN k l,aC.cO w' base y)∧aI w w' (blk a ++ l.filterMap aC.bt):=by
 by_cases hz:l.length=0
 ·have hl0:l= [] :=List.eq_nil_of_length_eq_zero hz
  subst hl0;have HO:Hid (w.ownsRow base 160 3 (.slice a 0 cap) 0 (bm.flat [])):=ho;clear ho
  go_enter Tryz.func61,Tryz.ntmps61
  go_wp2_with fail
  go_loopw [1,5] (fun q i wr=>q= .int .i64 k∧i= .int .i64 0∧wr=w) (fun _ _ _=>0)
  case atStart=>exact ⟨rfl,rfl,rfl⟩
  case round=>
   obtain ⟨rfl,rfl,rfl⟩:=hrel;go_wp2;go_ret;exact ⟨ck (by simp [aF]),HO.I,(fun y hy=>by cases hy),aI.refl _ _⟩
 obtain ⟨g,rfl,hrow⟩:=bl.fX (K:=bm) ho hz;have HR:Hid (bl bm 160 w base g cap l∧fp aC w base g l):=⟨hrow,hm,hn⟩
 have HB:Hid (k+(aF bN l:Nat)≤90000000∧ ∀ x∈l,x.Ma.length≤1048576):=⟨h1,hk⟩
 clear ho hrow h1 hz hm hn hk
 go_enter Tryz.func61,Tryz.ntmps61
 go_wp2_with fail
 go_loopw [1,5] (fun q i wr=> ∃ (j:Nat) (m:Int),j≤l.length∧i= .int .i64 j∧q= .int .i64 m∧1≤m∧m≤90000000∧Hid (m=k+(aF bN (l.take j):Nat)∧bl bm 160 wr base g cap (aJ dy bN k (l.take j) ++ l.drop j)∧fp aC wr base g (aJ dy bN k (l.take j) ++ l.drop j)∧aI w wr (g :: l.filterMap aC.bt))) (fun _ i _=>l.length - (intOf i).toNat)
 case atStart=>exact ⟨0,k,Ky _,rfl,rfl,h0,by have:=HB.I.1; omega,⟨by simp [aF],HR.I.1,HR.I.2,aI.refl _ _⟩⟩
 case round=>
  clear HR;obtain ⟨j,m,hj,rfl,rfl,m0,m1,HA⟩:=hrel;by_cases hlt:j < l.length
  ·have i0:(0:Int)≤(j:Int):=by omega
   have i1:(j:Int) < (l.length:Int):=by omega
   obtain ⟨x,hx⟩: ∃ x,l[j]? =some x:=⟨_,Kz hlt⟩
   have pI:l.drop j=x :: l.drop (j+1):=mz hx;have qw:=du (c:=bN) hx;have hup:=gK (c:=bN) hx;have hcx:bN x=2+aF (fun _:ByteArray=>1) x.Ma:=rfl;have HX:Hid (l[j]? =some x∧x.Ma.length≤1048576∧m+1+1+(aF (fun _:ByteArray=>1) x.Ma:Nat)≤90000000∧m+1+1+(aF (fun _:ByteArray=>1) x.Ma:Nat)=k+(aF bN (l.take (j+1)):Nat)):=⟨hx,HB.I.2 x (KA hx),by have:=HB.I.1; have:=HA.I.1; omega,by have:=HA.I.1; omega⟩
   have HW:Hid (bl bm 160 wr base g cap (aJ dy bN k (l.take j) ++ x :: l.drop (j+1))∧(aJ dy bN k (l.take j)).length=j):=⟨by have:=HA.I.2.1; rwa [pI] at this,by rw [bE,Lk]; omega⟩
   have HM:Hid (fp aC wr base g (aJ dy bN k (l.take j) ++ x :: l.drop (j+1))):=by have:=HA.I.2.2.1; rwa [pI] at this
   have m2:m+1+1≤90000000:=by have:=HX.I.2.2.1; omega
   have hgl:g < wr.heap.size:=HW.I.1.lt;clear hx pI qw hup hcx;have q0:=bl.eO HW.I.1 HW.I.2 (r:=0) (by decide:0 < bm.n);obtain ⟨⟨u0,c0⟩,f0⟩:(∃ u,wr.cell? ⟨g,j * 3,none⟩=some u)∧wr.frozen? ⟨g,j * 3,none⟩=false:=q0;have q1:=bl.eO HW.I.1 HW.I.2 (r:=1) (by decide:1 < bm.n);obtain ⟨⟨u1,c1⟩,f1⟩:(∃ u,wr.cell? ⟨g,j * 3+1,none⟩=some u)∧wr.frozen? ⟨g,j * 3+1,none⟩=false:=q1;have c2:wr.cell? ⟨g,j * 3+2,none⟩=some (.slice x.ak x.Ma.length x.aq):=(bl.uD HW.I.1 HW.I.2 (r:=2) (by decide:2 < bm.n))
   have h5:=bl.part (K:=bm) (x:=x) (y:=({ x with id:=m,max:=m+1 } :au)) (j:=0) (vs:= [.int .i64 (m),.int .i64 (m+1)]) HW.I.1 (by show 0+2≤3; omega) (fun r hr=>by match r,hr with | 0,_=>rfl | 1,_=>rfl) (fun r hr hn=>by match r,hr,hn with | 0,_,hn=>exact absurd ⟨by omega,by show 0 < 0+2; omega⟩ hn | 1,_,hn=>exact absurd ⟨by omega,by show 1 < 0+2; omega⟩ hn | 2,_,_=>rfl);rw [HW.I.2,show bm.n=3 from rfl] at h5;have h6:aI wr (bn wr g (j * 3) [.int .i64 (m),.int .i64 (m+1)]) [g] :=aI.set _ (by simp);simp only [bn,PT] at h5 h6;have HS:Hid (bl bm 160 ((wr.setCell ⟨g,j * 3,none⟩ (.int .i64 (m))).setCell ⟨g,j * 3+1,none⟩ (.int .i64 (m+1))) base g cap (aJ dy bN k (l.take j) ++ ({ x with id:=m,max:=m+1 } :au) :: l.drop (j+1))∧fp aC ((wr.setCell ⟨g,j * 3,none⟩ (.int .i64 (m))).setCell ⟨g,j * 3+1,none⟩ (.int .i64 (m+1))) base g (aJ dy bN k (l.take j) ++ ({ x with id:=m,max:=m+1 } :au) :: l.drop (j+1))∧aI w ((wr.setCell ⟨g,j * 3,none⟩ (.int .i64 (m))).setCell ⟨g,j * 3+1,none⟩ (.int .i64 (m+1))) (g :: l.filterMap aC.bt)):=⟨h5,(HM.I.keep h6).ju rfl ((HM.I.keep h6).mine x (by simp)),HA.I.2.2.2.trans (h6.mono (by simp))⟩
   clear h5 h6;go_wp2_with fail;generalize (wr.setCell ⟨g,j * 3,none⟩ (.int .i64 (m))).setCell ⟨g,j * 3+1,none⟩ (.int .i64 (m+1))=W1 at *;refine (uu x.ak x.Ma x.aq (m+1+1) W1 base HX.I.2.1 (by omega) HX.I.2.2.1 (HS.I.2.1.mine ({ x with id:=m,max:=m+1 } :au) (by simp))).mono ?_;rintro e v ⟨rfl,hown,hkb⟩;have HV:Hid (bl bm 160 v base g cap (aJ dy bN k (l.take (j+1)) ++ l.drop (j+1))∧fp aC v base g (aJ dy bN k (l.take (j+1)) ++ l.drop (j+1))∧aI w v (g :: l.filterMap aC.bt)):=by
    have hap:=HS.I.2.1.apart (z:=({ x with id:=m,max:=m+1 } :au)) (by simp);rw [kE HX.I.1,Lm,← HA.I.1];have h7:=HS.I.1.same (hkb.same g HS.I.1.lt hap);have hm7:aC.cO v base (dy m x):=by
     show v.ownsRow base _ 1 (.slice x.ak (aJ mkStr (fun _=>1) (m+1+1) x.Ma).length x.aq) (aJ mkStr (fun _=>1) (m+1+1) x.Ma).length (bT.flat (aJ mkStr (fun _=>1) (m+1+1) x.Ma))
     rw [bE];exact hown
    refine ⟨?_,HS.I.2.1.inner hkb rfl hm7,HS.I.2.2.trans (hkb.mono fun b hb=> ?_)⟩
    ·exact bl.part (K:=bm) (x:=({ x with id:=m,max:=m+1 } :au)) (y:=dy m x) (j:=0) (vs:= []) h7 (by show 0+0≤3; omega) (fun r hr=>absurd hr (by simp)) (fun r hr _=>by match r,hr with | 0,_=>rfl | 1,_=>rfl | 2,_=>(show some (Value.slice x.ak (aJ mkStr (fun _=>1) (m+1+1) x.Ma).length x.aq)=some (.slice x.ak x.Ma.length x.aq); rw [bE]))
    ·exact LB _ (Lq.2 ⟨x,KA HX.I.1,fZ.1 hb⟩)
   clear hown hkb HS;have m3:m+1+1+(aF (fun _:ByteArray=>1) x.Ma:Nat)≤90000000:=HX.I.2.2.1;go_wp2;go_roundw
   case rel=>exact ⟨j+1,m+1+1+(aF (fun _:ByteArray=>1) x.Ma:Nat),by omega,by go_num,rfl,by omega,by omega,⟨HX.I.2.2.2,HV.I.1,HV.I.2.1,HV.I.2.2⟩⟩
   case measure=>simp [intOf]; omega
  ·have i1: ¬ (j:Int) < (l.length:Int):=by omega
   have ej:j=l.length:=by omega
   subst ej;have HE:Hid (bl bm 160 wr base g cap (aJ dy bN k l)∧fp aC wr base g (aJ dy bN k l)∧m=k+(aF bN l:Nat)):=by have h5:=HA.I.2.1; have h6:=HA.I.1; have h7:=HA.I.2.2.1; rw [LQ,List.drop_length,QO] at h5 h7; rw [LQ] at h6; exact ⟨h5,h7,h6⟩
   go_wp2;go_ret;refine ⟨ck HE.I.2.2,?_,HE.I.2.1.mine,HA.I.2.2.2⟩;have h7:=HE.I.1.owns;rw [bE] at h7;exact h7
end
end Go.Proofs.YteidkehoekbcaaaGreat
