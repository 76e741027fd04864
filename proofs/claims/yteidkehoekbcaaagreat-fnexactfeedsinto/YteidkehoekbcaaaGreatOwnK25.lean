/- What the proof leans on, part 25. -/
import Derived.Test.YteidkehoekbcaaaGreatOwnK24
import Derived.Lib.SmallJoins
set_option maxRecDepth 100000
set_option maxHeartbeats 8000000
open Go renaming heap_alloc_new->Kj
open Go.Proofs.Tryz renaming prog->J3,underlying2->KN,underlying4->Q6
open Go.RowKit.Below renaming refl->Kp
open List renaming getElem?_eq_getElem->Kz,getElem?_eq_some_iff->Lj,map_append->Kl,mem_append->Kg,mem_cons->Kt,mem_of_getElem?->KA,mem_singleton->KB,not_mem_nil->Ku
open Nat renaming le_refl->Ki,zero_le->Ky
open Option.some renaming injEq->LF

namespace Go.Proofs.YteidkehoekbcaaaGreat
section
open Go.RowKit Go.Maps
attribute [local go_sem ↓] Go.wp_at_zero Go.wp_at_succ
def UW (w:World) (K b:Nat) (now:Int) (tab:Array Value) (l:List (aZ × Nat)) (ps:List aE) (cs:List eQ) (e:Ending) (W:World):Prop:=
 aI w W [K] ∧(((decide (cs.length≤10) && fA ps [] cs)=false∧e= .returned (.bool false))∨((decide (cs.length≤10) && fA ps [] cs)=true∧e= .returned (.bool true)∧ ∃ ls a cap,ls.map (·.c)=cs∧(∀ o∈ls,Joins l o)∧T1 w K b now tab a cap ls W))
theorem T3 (w0 w:World) (K b:Nat) (now:Int) (tab:Array Value) (l:List (aZ × Nat)) (ps:List aE) (cs:List eQ) (a:Option Addr) (cap:Nat) (hp:VK w K b l) (hl:l.map (·.1.pure)=ps) (hk:w.rowIs K 107 65 (B3 now tab b none 0 0)) (hb:Below w0.heap.size w0 w) (hK:w0.heap.size≤K) (hc:hM.bU w0 a cs) (hw: ∀ c∈cs,c.Wf) (hn:cs.length≤1048576):
  Calls J3 101 #[.pointer (some ⟨K,0,none⟩),.slice a cs.length cap] w fun e W=>UW w K b now tab l ps cs e W:=by
 have S:Hid (T1 w K b now tab none 0 [] w):=⟨aI.refl _ _,hk,World.ownsRow_nil _ _ _ _⟩
 have HP:=aA (And.intro hp (And.intro hl (And.intro hb (And.intro hK (And.intro hc hw)))));clear hp hl hk hb hK hc hw
 go_enter Tryz.func101,Tryz.ntmps101
 by_cases h10:10 < cs.length
 ·have i1:(10:Int) < (cs.length:Int):=by omega
  have HN:Hid ((decide (cs.length≤10) && fA ps [] cs)=false):=by show _=_; rw [decide_eq_false (by omega)]; rfl
  clear h10;go_wp2;go_ret;exact ⟨S.I.kept,.inl ⟨HN.I,rfl⟩⟩
 have i1: ¬ (10:Int) < (cs.length:Int):=by omega
 have eX:Hid (cs.length≤10):=by show _≤_; omega
 clear h10;go_wp2_with fail;clear i1
 go_loopw [12] (fun i wr=> ∃ (n:Nat) (ls:List gi) (a2:Option Addr) (Ta:Nat),n≤cs.length∧i= .int .i64 n∧Hid (T1 w K b now tab a2 Ta ls wr∧ls.map (·.c)=cs.take n∧(∀ o∈ls,Joins l o)∧fA ps [] (cs.take n)=true)) (fun i _=>cs.length - (Go.RowKit.intOf i).toNat)
 case atStart=>exact ⟨0,[],none,0,Ky _,rfl,S.I,rfl,(fun o ho=>by cases ho),rfl⟩
 case round=>
  clear S;obtain ⟨n,ls,a2,Ta,hn2,rfl,S⟩:=hrel;by_cases hlt:n < cs.length
  ·have i0:(0:Int)≤(n:Int):=by omega
   have i1:(n:Int) < (cs.length:Int):=by omega
   obtain ⟨c,hc⟩: ∃ c,cs[n]? =some c:=⟨_,Kz hlt⟩
   have DM:Hid (ls.length≤10):=by show ls.length≤10; have h:=congrArg List.length S.I.2.1; simp at h; have:=eX.I; omega
   have hbl:Below w0.heap.size w0 wr:=HP.I.2.2.1.trans (S.I.1.kept.below (by have h1:=HP.I.2.2.1.size; omega) (fun g hg=>by rw [KB.1 hg]; exact HP.I.2.2.2.1));obtain ⟨gs,rfl,c0,c1,c2,c3⟩:=TH (HP.I.2.2.2.2.1.below hbl) hc;have HC:=aA hc;clear hbl hc;go_upto_region 6 with fail;clear c0 c1 c2 c3;have hz:Below wr.heap.size wr (wr.alloc (.cells (nx c) 80)):=(Kp _ _).alloc (Ki _) _;have Uc:Hid (P1 (wr.alloc (.cells (nx c) 80)) wr.heap.size c):=Kj _ _;have mO:=aA S.I.2;replace S:=aA (S.I.1.below hz);clear hz;generalize wr.alloc (.cells (nx c) 80)=W1 at *;generalize wr.heap.size=X at *;have Mb:=Vm w K b now tab a2 Ta ls l ps c W1 HP.I.1 HP.I.2.1 mO.I.2.1 DM.I (HP.I.2.2.2.2.2 c (KA HC.I)) S.I;obtain ⟨m0,m1,m2,m3⟩:=Uc.I.cells;go_wp2_with fail;clear m0 m1 m2 m3 Uc;refine Mb.mono ?_;clear Mb S;rintro e W2 (⟨hno,rfl,hk2⟩ | ⟨fm,rfl,s,t,a3,UY,hj,hk3⟩)
   ·have HE:Hid (aI w W2 [K] ∧(decide (cs.length≤10) && fA ps [] cs)=false):=⟨hk2,by
     rw [kq HC.I,Bool.and_false];simp only [ko,Bool.and_eq_false_iff,Bool.not_eq_false',mO.I.1] at hno;exact hno⟩
    clear hno hk2;go_wp2;go_ret;exact ⟨HE.I.1,.inl ⟨HE.I.2,rfl⟩⟩
   ·have HE:Hid (T1 w K b now tab a3 UY (ls ++ [⟨c,s,t⟩]) W2∧(ls ++ [(⟨c,s,t⟩:gi)]).map (·.c)=cs.take (n+1)∧(∀ o∈ls ++ [(⟨c,s,t⟩:gi)],Joins l o)∧fA ps [] (cs.take (n+1))=true):=by
     refine ⟨hk3,by rw [cj HC.I,Kl,mO.I.1]; rfl,fun o ho=> ?_,?_⟩
     ·rcases Kg.1 ho with ho | ho
      ·exact mO.I.2.1 o ho
      ·rw [KB.1 ho]; exact hj
     ·simp only [ko,Bool.and_eq_true,Bool.not_eq_true',mO.I.1] at fm
      exact Tz mO.I.2.2 HC.I fm.1 fm.2
    clear fm hj hk3;go_wp2;go_roundw
    case rel=>exact ⟨n+1,ls ++ [⟨c,s,t⟩],a3,UY,by omega,by go_num,HE.I.1,HE.I.2⟩
    case measure=>simp [Go.RowKit.intOf]; omega
  ·have i1: ¬ (n:Int) < (cs.length:Int):=by omega
   go_wp2;go_ret;have h:=S.I;rw [List.take_of_length_le (by omega)] at h;exact ⟨h.1.kept,.inr ⟨by rw [decide_eq_true eX.I,h.2.2.2]; rfl,rfl,ls,a2,Ta,h.2.1,h.2.2.1,h.1⟩⟩
theorem Ux (m:Int) (a a':Option Addr) (l:List pA) (cap cap':Nat) (w:World) (hl:l.length≤1048576) (h:jq.bU w a l) (h':jq.bU w a' l):
  Calls J3 42 #[.agg #[.int .i64 m,.slice a l.length cap],.agg #[.int .i64 m,.slice a' l.length cap']] w fun e w'=>e= .returned (.bool true)∧Below w.heap.size w w':=by
 go_enter Tryz.func42,Tryz.ntmps42
 have hb:Below w.heap.size w ((w.alloc (.cells #[.int .i64 m,.slice a l.length cap] 33)).alloc (.cells #[.int .i64 m,.slice a' l.length cap'] 33)):=((Kp _ w).alloc (Ki _) _).alloc (by simp) _;have HB:=aA hb;have Mb:=UX a a' l cap cap' _ hl (h.below hb) (h'.below hb);clear h h' hb;go_wp2_with fail;refine Mb.mono ?_;rintro e w1 ⟨rfl,h1⟩;have H1:=aA h1;clear Mb h1;go_wp2;go_ret;exact ⟨rfl,HB.I.trans (H1.I.mono HB.I.size)⟩
structure EqK (w:World) (X:Nat) (k k':eA) (W:World):Prop where
 a:dr w X k W
 b:dr w (X+1) k' W
theorem EqK.below {w W W2:World} {X:Nat} {k k':eA} (h:EqK w X k k' W) (hb:Below W.heap.size W W2):EqK w X k k' W2:=⟨h.a.below hb,h.b.below hb⟩
theorem Uj (k k':eA) (w:World) (hw:k.fn.length≤1048576) (hl:k.parts.length≤1048576) (hc:k.eC.length≤1048576) (hk: ∀ x∈k.parts,x.pure.Small) (hp:k'.pure=k.pure) (h:eA.At w k) (h':eA.At w k'):
  Calls J3 12 #[.agg k.row,.agg k'.row] w fun e w'=>e= .returned (.bool true)∧Below w.heap.size w w':=by
 have e0:k'.now=k.now:=congrArg kd.now hp;have e1:k'.major=k.major:=congrArg kd.major hp;have e2:k'.fn=k.fn:=congrArg kd.fn hp;have e3:k'.parts.map (·.pure)=k.parts.map (·.pure):=congrArg kd.parts hp;have e4:k'.eC=k.eC:=congrArg kd.eC hp;have e5:k'.parts.length=k.parts.length:=by have:=congrArg List.length e3; simpa using this
 have hb:Below w.heap.size w ((w.alloc (.cells k.row 37)).alloc (.cells k'.row 37)):=((Kp _ w).alloc (Ki _) _).alloc (by simp) _;have S:Hid (EqK w w.heap.size k k' ((w.alloc (.cells k.row 37)).alloc (.cells k'.row 37))):=
  ⟨⟨(Below.heap_alloc _ _ _ (by simp)).trans (Kj _ _),h.below hb,hb⟩,⟨by have:=Kj (w.alloc (.cells k.row 37)) (.cells k'.row 37); simpa [Tk] using this,h'.below hb,hb⟩⟩
 have HK:Hid ((∀ x∈k.parts,x.pure.Small)∧k'.parts.map (·.pure)=k.parts.map (·.pure)∧k'.fn=k.fn∧k'.eC=k.eC):=⟨hk,e3,e2,e4⟩
 clear h h' hb hk hp e3
 go_enter Tryz.func12,Tryz.ntmps12
 go_upto_region 1 with fail;generalize (w.alloc (.cells k.row 37)).alloc (.cells k'.row 37)=W at *;obtain ⟨q0,q1,q2,q3,q4⟩:=S.I.a.box.cells;obtain ⟨r0,r1,r2,r3,r4⟩:=S.I.b.box.cells;rw [e0] at r0;rw [e1] at r1;rw [e2] at r2;have Mb:=Ux k.major k.vb k'.vb k.fn k.Te k'.Te W hw S.I.a.MT.fn (by have h:=S.I.b.MT.fn; rwa [e2] at h);go_wp2_with fail;refine Mb.mono ?_;clear Mb q0 q1 q2 q3 q4 r0 r1 r2 r3 r4;rintro e W1 ⟨rfl,hb⟩;replace S:=aA (S.I.below hb);clear hb;obtain ⟨q0,q1,q2,q3,q4⟩:=S.I.a.box.cells;obtain ⟨r0,r1,r2,r3,r4⟩:=S.I.b.box.cells;rw [e5] at r3;have Mb:=UA k.qn k'.qn k.parts k'.parts k.sa k'.sa W1 hl HK.I.1 HK.I.2.1 S.I.a.MT.parts S.I.b.MT.parts;go_wp2_with fail;refine Mb.mono ?_;clear Mb q0 q1 q2 q3 q4 r0 r1 r2 r3 r4;rintro e W2 ⟨rfl,hb⟩;replace S:=aA (S.I.below hb);clear hb;obtain ⟨q0,q1,q2,q3,q4⟩:=S.I.a.box.cells;obtain ⟨r0,r1,r2,r3,r4⟩:=S.I.b.box.cells;rw [e4] at r4;have Mb:=UC k.qi k'.qi k.eC k.tC k'.tC W2 hc S.I.a.MT.eC (by have h:=S.I.b.MT.eC; rwa [e4] at h);go_wp2_with fail;refine Mb.mono ?_;clear Mb q0 q1 q2 q3 q4 r0 r1 r2 r3 r4;rintro e W3 ⟨rfl,hb⟩;replace S:=aA (S.I.below hb);clear hb;go_wp2;go_ret;exact ⟨rfl,S.I.a.low⟩
structure VM (w w':World) (l I:List af):Prop where
 row:w'.ownsRow w.heap.size 48 8 (.slice (some ⟨w.heap.size,0,none⟩) l.length l.length) l.length (kp.flat I)
 alike:I.map (·.pure)=l.map (·.pure)
 mine: ∀ p∈I,ap w' (w.heap.size+1) p
 nodup:(I.flatMap af.Mc).Nodup
 cd:Below w.heap.size w w'
structure qg (w wr:World) (l I:List af) (k:Nat):Prop where
 fill:gb kp 48 w wr l.length I
 len:I.length=k
 alike:I.map (·.pure)=(l.take k).map (·.pure)
 mine: ∀ p∈I,ap wr (w.heap.size+1) p
 nodup:(I.flatMap af.Mc).Nodup
section
variable {w wr w':World} {l I:List af} {k:Nat} {x q:af}
theorem qg.start (h:gb kp 48 w wr l.length []):qg w wr l [] 0:=⟨h,rfl,rfl,(fun x hx=>by cases hx),List.nodup_nil⟩
theorem qg.below (h:qg w wr l I k) (hb:Below wr.heap.size wr w'):qg w w' l I k:=⟨h.fill.below hb,h.len,h.alike,fun x hx=>(h.mine x hx).below hb,h.nodup⟩
theorem qg.more (h:qg w w' l I k) (hlt:k < l.length) (hx:l[k]? =some x) (ho:ap w' wr.heap.size q) (hp:q.pure=x.pure) (hr:qg w wr l I k):qg w (bn w' w.heap.size (k * 8) (kp.vals q)) l (I ++ [q]) (k+1):=by
 have hf:=h.fill.more (by rw [h.len]; exact hlt) q;rw [h.len] at hf;have hlw:=hr.fill.lt;refine ⟨hf,by rw [List.length_append,h.len]; rfl,?_,fun y hy=> ?_,?_⟩
 ·rw [cj hx,Kl,Kl,h.alike]
  simp [hp]
 ·have hmy:ap w' (w.heap.size+1) y:=by
   rcases Kg.1 hy with hy | hy
   ·exact h.mine y hy
   ·rw [KB.1 hy]
    exact ho.lower (by omega)
  exact hmy.same fun g hg=>de _ (by have:=(hmy.lt g hg).1; omega)
 ·rw [List.flatMap_append,List.nodup_append]
  refine ⟨h.nodup,by simpa using ho.nodup,fun g hg g' hg' e=> ?_⟩;obtain ⟨y,hy,hgy⟩:=List.mem_flatMap.1 hg;have h1:=((hr.mine y hy).lt g hgy).2;have h2:=(ho.lt g' (by simpa using hg')).1;omega
theorem qg.done (h:qg w wr l I l.length) (hm:l.length≤maxLen):VM w wr l I:=
 ⟨h.fill.done h.len hm,by have:=h.alike; rwa [List.take_length] at this,h.mine,h.nodup,h.fill.cd⟩
end
theorem U0:(Tryz.prog.info? 48).map (fun i=>(i.zero,i.size,decide (i.bytes≤1000)))=some (some (.agg ar),8,true):=by kernel_rfl
theorem U1 (n:Nat) (hn:n≤1048576) (w:World):
  (Instr.makeSlice 34 (.int .i64 (n:Int)) (.int .i64 (n:Int))).run J3 w= .ok (.slice (some ⟨w.heap.size,0,none⟩) n n) (w.alloc (.cells (madeCells ar (n * 8)) 48)):=by
 obtain ⟨i,hi,e⟩:=Option.map_eq_some_iff.1 U0;simp only [Prod.mk.injEq,decide_eq_true_eq] at e;obtain ⟨e1,e2,e3⟩:=e;have hby:n * i.bytes≤1048576 * 1000:=Nat.mul_le_mul hn e3
 have:=run_make (P:=J3) w 34 48 i _ Tryz.underlying34 hi e1 .i64 .i64 n n (by omega) (by omega) (by rw [Nat.mul_comm] at hby; first | omega | (rw [Nat.mul_comm]; omega)) (by omega)
 rw [this,e2];simp [Value.cells]
theorem UJ (a:Option Addr) (l:List af) (cap:Nat) (w:World) (hl:l.length≤1048576) (hk: ∀ x∈l,x.yq) (hc:kp.ep w a l):
  Calls J3 39 #[.slice a l.length cap] w fun e w'=>e= .returned (.slice (some ⟨w.heap.size,0,none⟩) l.length l.length)∧ ∃ I,VM w w' l I:=by
 have hmk:=U1 l.length hl;have HC:=aA hc;have HKL:=aA hk;clear hk;have HF:Hid (gb kp 48 w (w.alloc (.cells (madeCells ar (l.length * 8)) 48)) l.length []):=gb.start (by rw [size_madeCells]; rfl);clear hc
 go_enter Tryz.func39,Tryz.ntmps39
 go_wp2_with fail
 go_loopw [4] (fun i wr=> ∃ k:Nat,k≤l.length∧i= .int .i64 k∧ ∃ I,Hid (qg w wr l I k)) (fun i _=>l.length - (Go.RowKit.intOf i).toNat)
 case atStart=>exact ⟨0,Ky _,rfl,[],qg.start HF.I⟩
 case round=>
  clear hmk HF;obtain ⟨k,hk,rfl,I,HR⟩:=hrel;by_cases hlt:k < l.length
  ·have i0:(0:Int)≤(k:Int):=by omega
   have i1:(k:Int) < (l.length:Int):=by omega
   obtain ⟨x,hx⟩: ∃ x,l[k]? =some x:=⟨_,Kz hlt⟩
   have hmem:=KA hx;obtain ⟨b,off,rfl,hat⟩:=(HC.I.below HR.I.fill.cd).at hx;have c0:wr.cell? ⟨b,off+k * 8,none⟩=some (.int .i64 x.id):=hat 0 _ rfl;have c1:wr.cell? ⟨b,off+k * 8+1,none⟩=some (.int .i64 x.next):=hat 1 _ rfl;have c2:wr.cell? ⟨b,off+k * 8+2,none⟩=some (.slice x.aN x.L8.length x.aW):=hat 2 _ rfl;have c3:wr.cell? ⟨b,off+k * 8+3,none⟩=some (.slice x.bc x.aj.length x.bF):=hat 3 _ rfl;have c4:wr.cell? ⟨b,off+k * 8+4,none⟩=some (.slice x.ay x.L9.length x.aO):=hat 4 _ rfl;have c5:wr.cell? ⟨b,off+k * 8+5,none⟩=some (.slice x.ax x.ag.length x.aP):=hat 5 _ rfl;have c6:wr.cell? ⟨b,off+k * 8+6,none⟩=some (.slice x.am x.ae.length x.aG):=hat 6 _ rfl;have c7:wr.cell? ⟨b,off+k * 8+7,none⟩=some (.slice x.aK x.ai.length x.aV):=hat 7 _ rfl;have Mb:=Ve x wr (HKL.I x hmem) (Tl ((HC.I.below HR.I.fill.cd).2 x hmem));have HX:=aA hx;have hfl:=HR.I.fill.lt;unfold af.cells at Mb;clear hx hat hmem;go_wp2_with fail;refine Mb.mono ?_;clear Mb;rintro e w1 ⟨q,rfl,hq,hp,hb1⟩;have pG:Hid (qg w w1 l I k):=HR.I.below hb1;obtain ⟨⟨u,hu⟩,hf⟩:=pG.I.fill.at;have d0:=hu (k * 8) (by show k * 8 < l.length * 8; omega);have f0:=hf (k * 8);have d1:=hu (k * 8+1) (by show k * 8+1 < l.length * 8; omega);have f1:=hf (k * 8+1);have d2:=hu (k * 8+2) (by show k * 8+2 < l.length * 8; omega);have f2:=hf (k * 8+2);have d3:=hu (k * 8+3) (by show k * 8+3 < l.length * 8; omega);have f3:=hf (k * 8+3);have d4:=hu (k * 8+4) (by show k * 8+4 < l.length * 8; omega);have f4:=hf (k * 8+4);have d5:=hu (k * 8+5) (by show k * 8+5 < l.length * 8; omega);have f5:=hf (k * 8+5);have d6:=hu (k * 8+6) (by show k * 8+6 < l.length * 8; omega);have f6:=hf (k * 8+6);have d7:=hu (k * 8+7) (by show k * 8+7 < l.length * 8; omega);have f7:=hf (k * 8+7);have h5:=pG.I.more hlt HX.I hq hp HR.I;rw [show kp.vals q= [.int .i64 q.id,.int .i64 q.next,.slice q.aN q.L8.length q.aW,.slice q.bc q.aj.length q.bF,.slice q.ay q.L9.length q.aO,.slice q.ax q.ag.length q.aP,.slice q.am q.ae.length q.aG,.slice q.aK q.ai.length q.aV] from rfl] at h5;simp only [bn,Nat.add_assoc,Nat.reduceAdd] at h5;have HS:=aA h5;clear h5;clear hu hf hb1 HR pG hq hp c0 c1 c2 c3 c4 c5 c6 c7;go_wp2;go_roundw
   case rel=>exact ⟨k+1,by omega,by go_num,_,HS.I⟩
   case measure=>simp [Go.RowKit.intOf]; omega
  ·have i1: ¬ (k:Int) < (l.length:Int):=by omega
   have ek:k=l.length:=by omega
   subst ek;go_wp2;go_ret;exact ⟨rfl,I,HR.I.done (by unfold maxLen; omega)⟩
end
section
open Go.RowKit Go.ChangeShapes Go.WideShapes Go.Joins Go.Deep
theorem Uw {α:Type} {p:Nat→α→Prop} : ∀ n,(∀ i,i < n→ ∃ y,p i y)→ ∃ l:List α,l.length=n∧ ∀ i y,l[i]? =some y→p i y
 | 0,_=>⟨[],rfl,fun i y h=>by simp at h⟩
 | n+1,h=>by
  obtain ⟨l,hl,hp⟩:=Uw n fun i hi=>h i (by omega)
  obtain ⟨y,hy⟩:=h n (by omega);refine ⟨l ++ [y],by simp [hl],fun i z hz=> ?_⟩;by_cases hi:i < l.length
  ·rw [List.getElem?_append_left hi] at hz
   exact hp i z hz
  ·rw [List.getElem?_append_right (by omega)] at hz
   have e:i - l.length=0:=by
    have:=(Lj.1 hz).1
    simp at this;omega
   rw [e] at hz;simp only [List.getElem?_cons_zero,LF] at hz;subst hz
   have:i=n:=by omega
   subst this;exact hy
section
variable {H:Type} {enc:TypeId × Value→H} {W:World}
theorem mo {t:TypeId} {fs:Array Field} {fuel:Nat} {cs:List Value} {x:DataW H × List MemPlace} (ht:Tryz.prog.underlying t=some (.struct fs)) (hone:oneCellFields J3 fs=true) (h:DataW.trod enc J3 W 0 (fun _=>true) true fuel t cs=some x):
  cs.length=Tryz.prog.cellsOf t∧ ∃ n,∀ (i:Nat) (f:Field) (v:Value),fs[i]? =some f→cs[i]? =some v→ ∃ y,DataW.trod enc J3 W 0 (fun _=>true) true n f.type [v] =some y:=by
 obtain ⟨xs,n,_,_,hl,hlen,hf⟩:=DataW.trod_struct ht h;refine ⟨hl,n,fun i f v hfi hv=> ?_⟩;obtain ⟨o1,o2⟩:=hone_of hone i f hfi;have h1:=hf i f hfi;have hi:i < xs.length:=by rw [hlen]; exact (Array.getElem?_eq_some_iff.1 hfi).1
 rw [o1,o2,Kz hi] at h1;have h2:(cs.drop i).take 1= [v] :=by
  obtain ⟨hlt,rfl⟩:=Lj.1 hv;rw [List.drop_eq_getElem_cons hlt];rfl
 rw [h2] at h1;exact ⟨_,h1⟩
theorem gk {α:Type} (K:Kind α) (G:α→Prop) {t e:TypeId} (ht:Tryz.prog.underlying t=some (.slice e)) (hn:Tryz.prog.cellsOf e=K.n) (hel: ∀ n cs x,DataW.trod enc J3 W 0 (fun _=>true) true n e cs=some x→ ∃ y,cs=K.vals y∧G y)
  {fuel:Nat} {v:Value} {x:DataW H × List MemPlace} (h:DataW.trod enc J3 W 0 (fun _=>true) true fuel t [v] =some x):
  ∃ (a:Option Addr) (l:List α) (cap:Nat),v= .slice a l.length cap∧l.length≤maxLen∧Src W a (K.flat l)∧ ∀ y∈l,G y:=by
 rcases open_slice ht h with ⟨e1,_⟩ | ⟨a,len,cap,q,n,dz,Pl,e1,_,hl,hm,hq,_,hx⟩
 ·simp only [List.cons.injEq,and_true] at e1
  exact ⟨none,[],0,e1,Ky _,(fun j u hu=>by simp [Kind.flat] at hu),fun y hy=>by cases hy⟩
 ·simp only [List.cons.injEq,and_true] at e1
  simp only [if_true] at hq;have key: ∀ i,i < len→ ∃ y,(∀ r,r < K.n→W.cell? (a.add (i * K.n+r))=(K.vals y)[r]?)∧G y:=fun i hi=>by
   obtain ⟨cs',k1,k2⟩:=hx i (by omega);rw [hn] at k1;obtain ⟨_,_,kc⟩:=World.cells?_some k1;obtain ⟨y,rfl,hy⟩:=hel _ _ _ k2;refine ⟨y,fun r hr=> ?_,hy⟩
   have:=kc r hr
   rw [add_add] at this;exact this
  obtain ⟨l,hlen,hp⟩:=Uw len key;refine ⟨some a,l,cap,by rw [hlen]; exact e1,by rw [hlen]; omega,fun j u hu=> ?_,fun y hy=> ?_⟩
  ·have hj:j < l.length * K.n:=by
    rw [← K.dM];exact (Lj.1 hu).1
   have hi:j / K.n < l.length:=Nat.div_lt_of_lt_mul (by rw [Nat.mul_comm]; exact hj);have hr:j % K.n < K.n:=Nat.mod_lt _ K.pos;have ej:j / K.n * K.n+j % K.n=j:=by rw [Nat.mul_comm]; exact Nat.div_add_mod j K.n
   obtain ⟨y,hy⟩: ∃ y,l[j / K.n]? =some y:=⟨_,Kz hi⟩
   have h1:=(hp _ _ hy).1 (j % K.n) hr;rw [← K.jw hy hr,ej,hu] at h1;obtain ⟨b,off,spot⟩:=a;have hspot:spot=none:=by
    obtain ⟨y0,hy0⟩: ∃ y,l[0]? =some y:=⟨_,Kz (Nat.lt_of_le_of_lt (Ky _) hi)⟩
    have h2:=(hp _ _ hy0).1 0 K.pos;rw [Kz (by rw [K.len]; exact K.pos)] at h2
    have:=World.cell?_spot h2
    simpa [Addr.add] using this
   subst hspot;rw [add_plain] at h1;exact ⟨b,off,rfl,h1⟩
  ·obtain ⟨i,hi⟩:=List.mem_iff_getElem?.1 hy
   exact (hp _ _ hi).2
theorem TU:Tryz.prog.cellsOf 9=bT.n:=by kernel_rfl
theorem Ti {fuel:Nat} {cs:List Value} {x:DataW H × List MemPlace} (h:DataW.trod enc J3 W 0 (fun _=>true) true fuel 9 cs=some x): ∃ s:ByteArray,cs=bT.vals s∧s.size≤maxLen:=by
 obtain ⟨s,e,-,hs⟩:=DataW.trod_string Tryz.underlying9 h;exact ⟨s,e,hs⟩
theorem Ut:Tryz.prog.cellsOf 317=4:=by kernel_rfl
theorem UN {fuel:Nat} {cs:List Value} {x:DataW H × List MemPlace} (h:DataW.trod enc J3 W 0 (fun _=>true) true fuel 317 cs=some x): ∃ y,cs=fk.vals y∧(fun o:dN=>o.2.2.2.size≤maxLen) y:=by
 obtain ⟨hlen,n,hf⟩:=mo Tryz.underlying317 (by kernel_rfl) h;rw [Ut] at hlen
 match cs,hlen with
 | [v0,v1,v2,v3],_=>
  obtain ⟨y0,h0⟩:=hf 0 _ v0 rfl rfl;obtain ⟨a0,e0,-,w0⟩:=DataW.trod_int KN h0;obtain ⟨y1,h1⟩:=hf 1 _ v1 rfl rfl;obtain ⟨a1,e1,-,w1⟩:=DataW.trod_int KN h1;obtain ⟨y2,h2⟩:=hf 2 _ v2 rfl rfl;obtain ⟨a2,e2,-,w2⟩:=DataW.trod_int KN h2;obtain ⟨y3,h3⟩:=hf 3 _ v3 rfl rfl;obtain ⟨a3,e3,-,s3⟩:=DataW.trod_string Tryz.underlying9 h3;simp only [List.cons.injEq,and_true] at e0 e1 e2 e3;subst e0 e1 e2 e3;exact ⟨(a0,a1,a2,a3),rfl,s3⟩
theorem Vl:Tryz.prog.cellsOf 224=3:=by kernel_rfl
theorem Uo {fuel:Nat} {cs:List Value} {x:DataW H × List MemPlace} (h:DataW.trod enc J3 W 0 (fun _=>true) true fuel 224 cs=some x): ∃ y,cs=dm.vals y∧(fun y:bD=>(Lit.int .i64 y.id).wf=true) y:=by
 obtain ⟨hlen,n,hf⟩:=mo Tryz.underlying224 (by kernel_rfl) h;rw [Vl] at hlen
 match cs,hlen with
 | [v0,v1,v2],_=>
  obtain ⟨y0,h0⟩:=hf 0 _ v0 rfl rfl;obtain ⟨a0,e0,-,w0⟩:=DataW.trod_int KN h0;obtain ⟨y1,h1⟩:=hf 1 _ v1 rfl rfl;obtain ⟨a1,e1,-,w1⟩:=DataW.trod_int KN h1;obtain ⟨y2,h2⟩:=hf 2 _ v2 rfl rfl;obtain ⟨a2,e2,-,w2⟩:=DataW.trod_int KN h2;simp only [List.cons.injEq,and_true] at e0 e1 e2;subst e0 e1 e2;exact ⟨⟨a0,a1,a2⟩,rfl,w0⟩
theorem Uh:Tryz.prog.cellsOf 226=2:=by kernel_rfl
theorem TM {fuel:Nat} {cs:List Value} {x:DataW H × List MemPlace} (h:DataW.trod enc J3 W 0 (fun _=>true) true fuel 226 cs=some x): ∃ y,cs=bJ.vals y∧(fun y:aB=>(Lit.int .i64 y.id).wf=true) y:=by
 obtain ⟨hlen,n,hf⟩:=mo Tryz.underlying226 (by kernel_rfl) h;rw [Uh] at hlen
 match cs,hlen with
 | [v0,v1],_=>
  obtain ⟨y0,h0⟩:=hf 0 _ v0 rfl rfl;obtain ⟨a0,e0,-,w0⟩:=DataW.trod_int KN h0;obtain ⟨y1,h1⟩:=hf 1 _ v1 rfl rfl;obtain ⟨a1,e1,-⟩:=DataW.trod_bool Q6 h1;simp only [List.cons.injEq,and_true] at e0 e1;subst e0 e1;exact ⟨⟨a0,a1⟩,rfl,w0⟩
theorem Ue:Tryz.prog.cellsOf 217=3:=by kernel_rfl
theorem TL {fuel:Nat} {cs:List Value} {x:DataW H × List MemPlace} (h:DataW.trod enc J3 W 0 (fun _=>true) true fuel 217 cs=some x): ∃ y,cs=bG.vals y∧(fun y:az=>(Lit.int .i64 y.id).wf=true∧y.text.size≤maxLen) y:=by
 obtain ⟨hlen,n,hf⟩:=mo Tryz.underlying217 (by kernel_rfl) h;rw [Ue] at hlen
 match cs,hlen with
 | [v0,v1,v2],_=>
  obtain ⟨y0,h0⟩:=hf 0 _ v0 rfl rfl;obtain ⟨a0,e0,-,w0⟩:=DataW.trod_int KN h0;obtain ⟨y1,h1⟩:=hf 1 _ v1 rfl rfl;obtain ⟨a1,e1,-⟩:=DataW.trod_bool Q6 h1;obtain ⟨y2,h2⟩:=hf 2 _ v2 rfl rfl;obtain ⟨a2,e2,-,s2⟩:=DataW.trod_string Tryz.underlying9 h2;simp only [List.cons.injEq,and_true] at e0 e1 e2;subst e0 e1 e2;exact ⟨⟨a0,a1,a2⟩,rfl,w0,s2⟩
theorem T6:Tryz.prog.cellsOf 219=3:=by kernel_rfl
theorem Tt {fuel:Nat} {cs:List Value} {x:DataW H × List MemPlace} (h:DataW.trod enc J3 W 0 (fun _=>true) true fuel 219 cs=some x): ∃ y,cs=bm.vals y∧(fun y:au=>(Lit.int .i64 y.id).wf=true∧(y.Ma.length≤maxLen∧ ∀ s∈y.Ma,s.size≤maxLen)∧Src W y.ak (bT.flat y.Ma)) y:=by
 obtain ⟨hlen,n,hf⟩:=mo Tryz.underlying219 (by kernel_rfl) h;rw [T6] at hlen
 match cs,hlen with
 | [v0,v1,v2],_=>
  obtain ⟨y0,h0⟩:=hf 0 _ v0 rfl rfl;obtain ⟨a0,e0,-,w0⟩:=DataW.trod_int KN h0;obtain ⟨y1,h1⟩:=hf 1 _ v1 rfl rfl;obtain ⟨a1,e1,-,w1⟩:=DataW.trod_int KN h1;obtain ⟨y2,h2⟩:=hf 2 _ v2 rfl rfl;obtain ⟨b2,l2,c2,e2,z2,r2,g2⟩:=gk bT (fun s=>s.size≤maxLen) Tryz.underlying83 TU (fun _ _ _ h=>Ti h) h2;simp only [List.cons.injEq,and_true] at e0 e1;subst e0 e1 e2;exact ⟨⟨⟨a0,a1,l2⟩,b2,c2⟩,rfl,w0,⟨z2,g2⟩,r2⟩
theorem UK:Tryz.prog.cellsOf 221=5:=by kernel_rfl
theorem TT {fuel:Nat} {cs:List Value} {x:DataW H × List MemPlace} (h:DataW.trod enc J3 W 0 (fun _=>true) true fuel 221 cs=some x): ∃ y,cs=bX.vals y∧(fun y:aM=>(Lit.int .i64 y.id).wf=true∧(y.Ma.length≤maxLen∧ ∀ s∈y.Ma,s.size≤maxLen)∧Src W y.ak (bT.flat y.Ma)) y:=by
 obtain ⟨hlen,n,hf⟩:=mo Tryz.underlying221 (by kernel_rfl) h;rw [UK] at hlen
 match cs,hlen with
 | [v0,v1,v2,v3,v4],_=>
  obtain ⟨y0,h0⟩:=hf 0 _ v0 rfl rfl;obtain ⟨a0,e0,-,w0⟩:=DataW.trod_int KN h0;obtain ⟨y1,h1⟩:=hf 1 _ v1 rfl rfl;obtain ⟨a1,e1,-⟩:=DataW.trod_bool Q6 h1;obtain ⟨y2,h2⟩:=hf 2 _ v2 rfl rfl;obtain ⟨a2,e2,-⟩:=DataW.trod_bool Q6 h2;obtain ⟨y3,h3⟩:=hf 3 _ v3 rfl rfl;obtain ⟨a3,e3,-,w3⟩:=DataW.trod_int KN h3;obtain ⟨y4,h4⟩:=hf 4 _ v4 rfl rfl;obtain ⟨b4,l4,c4,e4,z4,r4,g4⟩:=gk bT (fun s=>s.size≤maxLen) Tryz.underlying83 TU (fun _ _ _ h=>Ti h) h4;simp only [List.cons.injEq,and_true] at e0 e1 e2 e3;subst e0 e1 e2 e3 e4;exact ⟨⟨⟨a0,a1,a2,a3,l4⟩,b4,c4⟩,rfl,w0,⟨z4,g4⟩,r4⟩
theorem UO:Tryz.prog.cellsOf 215=12:=by kernel_rfl
theorem T8 {fuel:Nat} {cs:List Value} {x:DataW H × List MemPlace} (h:DataW.trod enc J3 W 0 (fun _=>true) true fuel 215 cs=some x): ∃ y,cs=bg.vals y∧(fun y:ao=>y.Wf∧((y.prog.length≤maxLen∧ ∀ o∈y.prog,o.2.2.2.size≤maxLen)∧y.held.size≤maxLen∧y.got.size≤maxLen)∧Src W y.aY (fk.flat y.prog)) y:=by
 obtain ⟨hlen,n,hf⟩:=mo Tryz.underlying215 (by kernel_rfl) h;rw [UO] at hlen
 match cs,hlen with
 | [v0,v1,v2,v3,v4,v5,v6,v7,v8,v9,v10,v11],_=>
  obtain ⟨y0,h0⟩:=hf 0 _ v0 rfl rfl;obtain ⟨a0,e0,-,w0⟩:=DataW.trod_int KN h0;obtain ⟨y1,h1⟩:=hf 1 _ v1 rfl rfl;obtain ⟨a1,e1,-,w1⟩:=DataW.trod_int KN h1;obtain ⟨y2,h2⟩:=hf 2 _ v2 rfl rfl;obtain ⟨b2,l2,c2,e2,z2,r2,g2⟩:=gk fk (fun o=>o.2.2.2.size≤maxLen) Tryz.underlying213 Ut (fun _ _ _ h=>UN h) h2;obtain ⟨y3,h3⟩:=hf 3 _ v3 rfl rfl;obtain ⟨a3,e3,-,w3⟩:=DataW.trod_int KN h3;obtain ⟨y4,h4⟩:=hf 4 _ v4 rfl rfl;obtain ⟨a4,e4,-,w4⟩:=DataW.trod_int KN h4;obtain ⟨y5,h5⟩:=hf 5 _ v5 rfl rfl;obtain ⟨a5,e5,-,w5⟩:=DataW.trod_int KN h5;obtain ⟨y6,h6⟩:=hf 6 _ v6 rfl rfl;obtain ⟨a6,e6,-,w6⟩:=DataW.trod_int KN h6;obtain ⟨y7,h7⟩:=hf 7 _ v7 rfl rfl;obtain ⟨a7,e7,-,w7⟩:=DataW.trod_int KN h7;obtain ⟨ea,h8⟩:=hf 8 _ v8 rfl rfl;obtain ⟨a8,e8,-,s8⟩:=DataW.trod_string Tryz.underlying9 h8;obtain ⟨ah,h9⟩:=hf 9 _ v9 rfl rfl;obtain ⟨a9,e9,-,s9⟩:=DataW.trod_string Tryz.underlying9 h9;obtain ⟨y10,h10⟩:=hf 10 _ v10 rfl rfl;obtain ⟨a10,Pn,-,pH⟩:=DataW.trod_int KN h10;obtain ⟨y11,h11⟩:=hf 11 _ v11 rfl rfl;obtain ⟨a11,e11,-,ow⟩:=DataW.trod_int KN h11;simp only [List.cons.injEq,and_true] at e0 e1 e3 e4 e5 e6 e7 e8 e9 Pn e11;subst e0 e1 e3 e4 e5 e6 e7 e8 e9 Pn e11 e2;exact ⟨⟨⟨a0,a1,l2,a3,a4,a5,a6,a7,a8,a9,a10,a11⟩,b2,c2⟩,rfl,⟨w0,w7,ow⟩,⟨⟨z2,g2⟩,s8,s9⟩,r2⟩
theorem sA {fuel:Nat} {cs:List Value} {x:DataW H × List MemPlace} (h:DataW.trod enc J3 W 0 (fun _=>true) true fuel 68 cs=some x): ∃ p:af,cs=p.cells.toList∧p.Ud∧p.ep W∧p.Ints:=by
 obtain ⟨hlen,n,hf⟩:=mo Tryz.underlying68 (by kernel_rfl) h;rw [show Tryz.prog.cellsOf 68=8 by kernel_rfl] at hlen
 match cs,hlen with
 | [v0,v1,v2,v3,v4,v5,v6,v7],_=>
  obtain ⟨y0,h0⟩:=hf 0 _ v0 rfl rfl;obtain ⟨y1,h1⟩:=hf 1 _ v1 rfl rfl;obtain ⟨a0,e0,-,-⟩:=DataW.trod_int KN h0;obtain ⟨a1,e1,-,-⟩:=DataW.trod_int KN h1;obtain ⟨y2,h2⟩:=hf 2 _ v2 rfl rfl;obtain ⟨b2,l2,c2,e2,z2,r2,g2⟩:=gk bg (fun y:ao=>y.Wf∧((y.prog.length≤maxLen∧ ∀ o∈y.prog,o.2.2.2.size≤maxLen)∧y.held.size≤maxLen∧y.got.size≤maxLen)∧Src W y.aY (fk.flat y.prog)) Tryz.underlying61 (by kernel_rfl) (fun _ _ _ h=>T8 h) h2;obtain ⟨y3,h3⟩:=hf 3 _ v3 rfl rfl;obtain ⟨b3,l3,c3,e3,z3,r3,g3⟩:=gk dm (fun y:bD=>(Lit.int .i64 y.id).wf=true) Tryz.underlying62 (by kernel_rfl) (fun _ _ _ h=>Uo h) h3;obtain ⟨y4,h4⟩:=hf 4 _ v4 rfl rfl;obtain ⟨b4,l4,c4,e4,z4,r4,g4⟩:=gk bJ (fun y:aB=>(Lit.int .i64 y.id).wf=true) Tryz.underlying63 (by kernel_rfl) (fun _ _ _ h=>TM h) h4;obtain ⟨y5,h5⟩:=hf 5 _ v5 rfl rfl;obtain ⟨b5,l5,c5,e5,z5,r5,g5⟩:=gk bG (fun y:az=>(Lit.int .i64 y.id).wf=true∧y.text.size≤maxLen) Tryz.underlying64 (by kernel_rfl) (fun _ _ _ h=>TL h) h5;obtain ⟨y6,h6⟩:=hf 6 _ v6 rfl rfl;obtain ⟨b6,l6,c6,e6,z6,r6,g6⟩:=gk bm (fun y:au=>(Lit.int .i64 y.id).wf=true∧(y.Ma.length≤maxLen∧ ∀ s∈y.Ma,s.size≤maxLen)∧Src W y.ak (bT.flat y.Ma)) Tryz.underlying65 (by kernel_rfl) (fun _ _ _ h=>Tt h) h6;obtain ⟨y7,h7⟩:=hf 7 _ v7 rfl rfl;obtain ⟨b7,dw,c7,e7,z7,r7,g7⟩:=gk bX (fun y:aM=>(Lit.int .i64 y.id).wf=true∧(y.Ma.length≤maxLen∧ ∀ s∈y.Ma,s.size≤maxLen)∧Src W y.ak (bT.flat y.Ma)) Tryz.underlying66 (by kernel_rfl) (fun _ _ _ h=>TT h) h7;simp only [List.cons.injEq,and_true] at e0 e1;subst e0 e1 e2 e3 e4 e5 e6 e7;refine ⟨⟨a0,a1,l2,b2,c2,l3,b3,c3,l4,b4,c4,l5,b5,c5,l6,b6,c6,dw,b7,c7⟩,rfl,⟨z2,z3,z4,z5,z6,z7,fun x hx=>(g2 x hx).2.1,fun x hx=>(g5 x hx).2,fun x hx=>(g6 x hx).2.1,fun x hx=>(g7 x hx).2.1⟩,⟨⟨r2,fun x hx r hr=> ?_⟩,⟨r3,fun x hx r hr=> ?_⟩,⟨r4,fun x hx r hr=> ?_⟩,⟨r5,fun x hx r hr=> ?_⟩,⟨r6,fun x hx r hr=> ?_⟩,⟨r7,fun x hx r hr=> ?_⟩⟩,⟨fun x hx=>(g2 x hx).1,g3,g4,fun x hx=>(g5 x hx).1,fun x hx=>(g6 x hx).1,fun x hx=>(g7 x hx).1⟩⟩
  ·simp only [bg,Kt,Ku,or_false] at hr
   subst hr;exact (g2 x hx).2.2
  ·simp [dm] at hr
  ·simp [bJ] at hr
  ·simp [bG] at hr
  ·simp only [bm,Kt,Ku,or_false] at hr
   subst hr;exact (g6 x hx).2.2
  ·simp only [bX,Kt,Ku,or_false] at hr
   subst hr;exact (g7 x hx).2.2
end
end
end Go.Proofs.YteidkehoekbcaaaGreat
