/- What the proof leans on, part 26. -/
import Derived.Test.YteidkehoekbcaaaGreatOwnK25
set_option maxRecDepth 100000
set_option maxHeartbeats 8000000
open Array renaming getElem?_eq_some_iff->J2
open Bool renaming and_eq_true->J7
open Go renaming bodyPost_ret->KT,heap_alloc_new->Kj
open Go.Proofs.Tryz renaming prog->J3,underlying2->KN
open Go.RowKit.Below renaming heap_setCell->K6,refl->Kp
open List renaming mem_append->Kg,mem_cons->Kt,mem_flatMap->Rt,mem_map->Lr,mem_singleton->KB,not_mem_nil->Ku
open Nat renaming le_refl->Ki,zero_add->Li

namespace Go.Proofs.YteidkehoekbcaaaGreat
section
open Go.RowKit Go.Maps
attribute [local go_sem ↓] Go.wp_at_zero Go.wp_at_succ
theorem UI (m:Int) (a:Option Addr) (l:List pA) (cap:Nat) (w:World) (hl:l.length≤1048576) (hc:jq.ep w a l):
  Calls J3 38 #[.agg #[.int .i64 m,.slice a l.length cap]] w fun e w'=> ∃ g,e= .returned (.agg #[.int .i64 m,.slice (some ⟨g,0,none⟩) l.length l.length])∧w'.ownsRow (w.heap.size+1) 100 3 (.slice (some ⟨g,0,none⟩) l.length l.length) l.length (jq.flat l)∧w.heap.size < g∧g < w'.heap.size∧Below w.heap.size w w':=by
 have hb0:Below w.heap.size w (((w.alloc (.cells #[.int .i64 m,.slice a l.length cap] 24)).alloc (.cells #[.int .i64 0,.slice none 0 0] 33)).alloc (.cells #[.int .i64 m,.slice none 0 0] 33)):=(((Kp _ w).alloc (Ki _) _).alloc (by simp) _).alloc (by simp; omega) _;have HX:Hid ((((w.alloc (.cells #[.int .i64 m,.slice a l.length cap] 24)).alloc (.cells #[.int .i64 0,.slice none 0 0] 33)).alloc (.cells #[.int .i64 m,.slice none 0 0] 33)).heap[w.heap.size+1]? =some (.cells #[.int .i64 0,.slice none 0 0] 33 (0,0))∧(((w.alloc (.cells #[.int .i64 m,.slice a l.length cap] 24)).alloc (.cells #[.int .i64 0,.slice none 0 0] 33)).alloc (.cells #[.int .i64 m,.slice none 0 0] 33)).heap[w.heap.size+1+1]? =some (.cells #[.int .i64 m,.slice none 0 0] 33 (0,0))∧(((w.alloc (.cells #[.int .i64 m,.slice a l.length cap] 24)).alloc (.cells #[.int .i64 0,.slice none 0 0] 33)).alloc (.cells #[.int .i64 m,.slice none 0 0] 33)).heap.size=w.heap.size+1+1+1):=by
  refine ⟨?_,?_,by simp⟩
  ·refine (Below.heap_alloc _ _ _ (by simp)).trans ?_
   simpa using Kj (w.alloc (.cells #[.int .i64 m,.slice a l.length cap] 24)) (.cells #[.int .i64 0,.slice none 0 0] 33)
  ·simpa using Kj ((w.alloc (.cells #[.int .i64 m,.slice a l.length cap] 24)).alloc (.cells #[.int .i64 0,.slice none 0 0] 33)) (.cells #[.int .i64 m,.slice none 0 0] 33)
 have HB:=aA hb0;have Mb:=Vd a l cap _ hl (hc.below hb0);clear hc hb0 hl
 go_enter Tryz.func38,Tryz.ntmps38
 go_wp2_with fail;generalize ((w.alloc (.cells #[.int .i64 m,.slice a l.length cap] 24)).alloc (.cells #[.int .i64 0,.slice none 0 0] 33)).alloc (.cells #[.int .i64 m,.slice none 0 0] 33)=W at *;refine Mb.mono ?_;clear Mb;rintro e w1 ⟨rfl,hown,hb1⟩;have hsz:=HX.I.2.2;have y1:w1.heap[w.heap.size+1]? =some (.cells #[.int .i64 0,.slice none 0 0] 33 (0,0)):=(hb1.block _ (by omega)).trans HX.I.1;have y2:w1.heap[w.heap.size+1+1]? =some (.cells #[.int .i64 m,.slice none 0 0] 33 (0,0)):=(hb1.block _ (by omega)).trans HX.I.2.1;have HM:Hid (w1.ownsRow W.heap.size 100 3 (.slice (some ⟨W.heap.size,0,none⟩) l.length l.length) l.length (jq.flat l)∧Below w.heap.size w w1∧W.heap.size < w1.heap.size):=⟨hown,HB.I.trans (hb1.mono HB.I.size),by
  rcases hown.2 with h | ⟨g,c,cur,hv,-,hg,-⟩
  ·cases h.1
  ·cases hv
   exact (J2.1 hg).1⟩
 have t0:w1.cell? ⟨w.heap.size+1+1,0,none⟩=some (.int .i64 m):=by simp [World.cell?,y2]
 have t1:w1.cell? ⟨w.heap.size+1+1,1,none⟩=some (.slice none 0 0):=by simp [World.cell?,y2]
 have u0:w1.frozen? ⟨w.heap.size+1+1,0,none⟩=false:=by simp [World.frozen?,y2]
 have u1:w1.frozen? ⟨w.heap.size+1+1,1,none⟩=false:=by simp [World.frozen?,y2]
 have v0:w1.cell? ⟨w.heap.size+1,0,none⟩=some (.int .i64 0):=by simp [World.cell?,y1]
 have v1:w1.cell? ⟨w.heap.size+1,1,none⟩=some (.slice none 0 0):=by simp [World.cell?,y1]
 have p0:w1.frozen? ⟨w.heap.size+1,0,none⟩=false:=by simp [World.frozen?,y1]
 have p1:w1.frozen? ⟨w.heap.size+1,1,none⟩=false:=by simp [World.frozen?,y1]
 clear y1 y2 hown hb1 hsz
 dsimp only
 go_wp2;refine KT (v:= .agg #[.int .i64 m,.slice (some ⟨W.heap.size,0,none⟩) l.length l.length]) (by simp [results,Tryz.results38,go_sem, *]) rfl ?_;have hsz:=HX.I.2.2;have h7:Below w.heap.size w (bn (bn w1 (w.heap.size+1+1) 1 [.slice (some ⟨W.heap.size,0,none⟩) l.length l.length]) (w.heap.size+1) 0 [.int .i64 m,.slice (some ⟨W.heap.size,0,none⟩) l.length l.length]):=eU _ (by omega) (eU _ (by omega) HM.I.2.1);have h8:(bn (bn w1 (w.heap.size+1+1) 1 [.slice (some ⟨W.heap.size,0,none⟩) l.length l.length]) (w.heap.size+1) 0 [.int .i64 m,.slice (some ⟨W.heap.size,0,none⟩) l.length l.length]).ownsRow W.heap.size 100 3 (.slice (some ⟨W.heap.size,0,none⟩) l.length l.length) l.length (jq.flat l):=aL HM.I.1 fun g hg=>by
  have hg2:g=W.heap.size:=by simpa [blk] using hg
  exact (de _ (by omega)).trans (de _ (by omega))
 have h9:(bn (bn w1 (w.heap.size+1+1) 1 [.slice (some ⟨W.heap.size,0,none⟩) l.length l.length]) (w.heap.size+1) 0 [.int .i64 m,.slice (some ⟨W.heap.size,0,none⟩) l.length l.length]).heap.size=w1.heap.size:=by rw [fH,fH]
 have h10:=cq h8 (show w.heap.size+1≤W.heap.size by omega);simp only [bn,Li] at h7 h9 h10;exact ⟨W.heap.size,rfl,h10,by omega,by rw [h9]; exact HM.I.2.2,h7⟩
abbrev T9:Array Value:= #[.int .i64 0,.int .i64 0,.slice none 0 0,.slice none 0 0,.slice none 0 0]
structure Vs (w:World) (k:eA) (cur:Array Value) (F:World→Prop) (W:World):Prop where
 src:W.heap[w.heap.size]? =some (.cells k.row 28 (0,0))
 res:W.heap[w.heap.size+1]? =some (.cells T9 37 (0,0))
 var:W.heap[w.heap.size+1+1]? =some (.cells cur 37 (0,0))
 cd:Below w.heap.size w W
 keep:fV (w.heap.size+1+1+1) F W
section
variable {w W W2:World} {k:eA} {cur:Array Value} {F G:World→Prop}
theorem Vs.lt (h:Vs w k cur F W):w.heap.size+1+1 < W.heap.size:=(J2.1 h.var).1
theorem Vs.call (h:Vs w k cur F W) (hb:Below W.heap.size W W2) (hg:fV (w.heap.size+1+1+1) G W2):Vs w k cur (fun V=>F V∧G V) W2:=by
 have hl:=h.lt;exact ⟨(hb.block _ (by omega)).trans h.src,(hb.block _ (by omega)).trans h.res,(hb.block _ (by omega)).trans h.var,h.cd.trans (hb.mono h.cd.size),fun V hs hz=>⟨(h.keep.step (fun g _ h2=>hb.block g h2) hb.size) V hs hz,hg V hs hz⟩⟩
theorem Vs.set (h:Vs w k cur F W) (i:Nat) (v:Value):Vs w k (cur.setIfInBounds i v) F (W.setCell ⟨w.heap.size+1+1,i,none⟩ v):=
 ⟨(K6 W _ v _ (by show ¬ w.heap.size=w.heap.size+1+1; omega)).trans h.src,(K6 W _ v _ (by show ¬ w.heap.size+1=w.heap.size+1+1; omega)).trans h.res,heap_setCell_same W _ i cur _ v h.var,h.cd.setCell (by show w.heap.size≤w.heap.size+1+1; omega) v,h.keep.step (fun g h1 _=>K6 W _ v _ (by show ¬ g=w.heap.size+1+1; omega)) (by simp [World.setCell])⟩
end
structure gp (w:World) (base:Nat) (k:eA):Prop where
 fn:w.ownsRow base 100 3 (.slice k.vb k.fn.length k.Te) k.fn.length (jq.flat k.fn)
 parts:w.ownsRow base 48 8 (.slice k.qn k.parts.length k.sa) k.parts.length (kp.flat k.parts)
 eC:w.ownsRow base 80 4 (.slice k.qi k.eC.length k.tC) k.eC.length (hM.flat k.eC)
 mine: ∀ p∈k.parts,ap w base p
 nodup:(blk k.vb ++ (blk k.qn ++ (blk k.qi ++ k.parts.flatMap af.Mc))).Nodup
theorem xb (k:eA) (w:World) (hs:k.yq) (hc:k.ep w):
  Calls J3 10 #[.agg k.row] w fun e w'=> ∃ (k':eA) (g:Nat),e= .returned (.agg k'.row)∧gp w' w.heap.size k'∧k'.pure=k.pure∧(k'.vb=some ⟨g,0,none⟩∧g < w'.heap.size)∧Below w.heap.size w w':=by
 have T:Hid (Vs w k #[.int .i64 k.now,.int .i64 0,.slice none 0 0,.slice none 0 0,.slice none 0 0] (fun _=>True) (((w.alloc (.cells k.row 28)).alloc (.cells T9 37)).alloc (.cells #[.int .i64 k.now,.int .i64 0,.slice none 0 0,.slice none 0 0,.slice none 0 0] 37))):=by
  refine ⟨?_,?_,?_,(((Kp _ w).alloc (Ki _) _).alloc (by simp) _).alloc (by simp; omega) _,fun _ _ _=>trivial⟩
  ·exact (Below.heap_alloc _ _ _ (by simp; omega)).trans ((Below.heap_alloc _ _ _ (by simp)).trans (Kj _ _))
  ·refine (Below.heap_alloc _ _ _ (by simp)).trans ?_
   simpa using Kj (w.alloc (.cells k.row 28)) (.cells T9 37)
  ·simpa using Kj ((w.alloc (.cells k.row 28)).alloc (.cells T9 37)) (.cells #[.int .i64 k.now,.int .i64 0,.slice none 0 0,.slice none 0 0,.slice none 0 0] 37)
 have HS:=aA hs;have HC:=aA hc;clear hs hc
 go_enter Tryz.func10,Tryz.ntmps10
 go_wp2_with fail;generalize ((w.alloc (.cells k.row 28)).alloc (.cells T9 37)).alloc (.cells #[.int .i64 k.now,.int .i64 0,.slice none 0 0,.slice none 0 0,.slice none 0 0] 37)=W0 at *;refine (UI k.major k.vb k.fn k.Te W0 HS.I.Ts (HC.I.fn.below T.I.cd)).mono ?_;rintro e v1 ⟨g1,rfl,ho,CT,hl1,hb1⟩;have hlt:=T.I.lt;replace T:=aA (T.I.call hb1 (G:=fun V=>V.ownsRow w.heap.size 100 3 (.slice (some ⟨g1,0,none⟩) k.fn.length k.fn.length) k.fn.length (jq.flat k.fn)∧g1 < V.heap.size) (fun V hs hz=>⟨cq (aL ho fun g hg=>by
  have e:g=g1:=by simpa [blk] using hg
  subst e;exact hs g (by omega) hl1) (by omega),by omega⟩))
 clear ho CT hl1 hb1 hlt;have t0:v1.cell? ⟨w.heap.size+1+1,0,none⟩=some (.int .i64 k.now):=by have:=T.I.var; simp [World.cell?,this]
 have u0:v1.frozen? ⟨w.heap.size+1+1,0,none⟩=false:=by have:=T.I.var; simp [World.frozen?,this]
 have t1:v1.cell? ⟨w.heap.size+1+1,1,none⟩=some (.int .i64 0):=by have:=T.I.var; simp [World.cell?,this]
 have u1:v1.frozen? ⟨w.heap.size+1+1,1,none⟩=false:=by have:=T.I.var; simp [World.frozen?,this]
 have t2:v1.cell? ⟨w.heap.size+1+1,2,none⟩=some (.slice none 0 0):=by have:=T.I.var; simp [World.cell?,this]
 have u2:v1.frozen? ⟨w.heap.size+1+1,2,none⟩=false:=by have:=T.I.var; simp [World.frozen?,this]
 have t3:v1.cell? ⟨w.heap.size+1+1,3,none⟩=some (.slice none 0 0):=by have:=T.I.var; simp [World.cell?,this]
 have u3:v1.frozen? ⟨w.heap.size+1+1,3,none⟩=false:=by have:=T.I.var; simp [World.frozen?,this]
 have t4:v1.cell? ⟨w.heap.size+1+1,4,none⟩=some (.slice none 0 0):=by have:=T.I.var; simp [World.cell?,this]
 have u4:v1.frozen? ⟨w.heap.size+1+1,4,none⟩=false:=by have:=T.I.var; simp [World.frozen?,this]
 replace T:=aA ((T.I.set 1 (.int .i64 k.major)).set 2 (.slice (some ⟨g1,0,none⟩) k.fn.length k.fn.length));go_upto_region 4 with fail;generalize (v1.setCell ⟨w.heap.size+1+1,1,none⟩ (.int .i64 k.major)).setCell ⟨w.heap.size+1+1,2,none⟩ (.slice (some ⟨g1,0,none⟩) k.fn.length k.fn.length)=W1 at *;clear t0 t1 t2 t3 t4 u0 u1 u2 u3 u4;have s3:W1.cell? ⟨w.heap.size,3,none⟩=some (.slice k.qn k.parts.length k.sa):=by have:=T.I.src; simp [World.cell?,this]
 have Mb:=UJ k.qn k.parts k.sa W1 HS.I.sC HS.I.parts (HC.I.parts.below T.I.cd);go_wp2_with fail;clear s3;refine Mb.mono ?_;clear Mb;rintro e v2 ⟨rfl,I,Vu⟩;have hlt:=T.I.lt;have HP:=aA Vu.alike;have HN:Hid (g1 < W1.heap.size∧W1.heap.size < v2.heap.size∧(I.flatMap af.Mc).Nodup∧ ∀ g∈I.flatMap af.Mc,W1.heap.size < g∧g < v2.heap.size):=⟨T.I.keep.here.2.2,(cf Vu.row (by simp [blk])).2,Vu.nodup,fun g hg=>by
  obtain ⟨p,hp,l9⟩:=Rt.1 hg
  have:=(Vu.mine p hp).lt g l9
  omega⟩
 replace T:=aA (T.I.call Vu.cd (G:=fun V=>V.ownsRow w.heap.size 48 8 (.slice (some ⟨W1.heap.size,0,none⟩) k.parts.length k.parts.length) k.parts.length (kp.flat I)∧ ∀ p∈I,ap V w.heap.size p) (fun V hs hz=>⟨cq (aL Vu.row fun g hg=>hs g (by have:=(cf Vu.row hg).1; omega) (cf Vu.row hg).2) (by omega),fun p hp=>((Vu.mine p hp).same fun g hg=>hs g (by have:=((Vu.mine p hp).lt g hg).1; omega) ((Vu.mine p hp).lt g hg).2).lower (by omega)⟩));clear Vu hlt;generalize W1.heap.size=S2 at *;have t0:v2.cell? ⟨w.heap.size+1+1,0,none⟩=some (.int .i64 k.now):=by have:=T.I.var; simp [World.cell?,this]
 have u0:v2.frozen? ⟨w.heap.size+1+1,0,none⟩=false:=by have:=T.I.var; simp [World.frozen?,this]
 have t1:v2.cell? ⟨w.heap.size+1+1,1,none⟩=some (.int .i64 k.major):=by have:=T.I.var; simp [World.cell?,this]
 have u1:v2.frozen? ⟨w.heap.size+1+1,1,none⟩=false:=by have:=T.I.var; simp [World.frozen?,this]
 have t2:v2.cell? ⟨w.heap.size+1+1,2,none⟩=some (.slice (some ⟨g1,0,none⟩) k.fn.length k.fn.length):=by have:=T.I.var; simp [World.cell?,this]
 have u2:v2.frozen? ⟨w.heap.size+1+1,2,none⟩=false:=by have:=T.I.var; simp [World.frozen?,this]
 have t3:v2.cell? ⟨w.heap.size+1+1,3,none⟩=some (.slice none 0 0):=by have:=T.I.var; simp [World.cell?,this]
 have u3:v2.frozen? ⟨w.heap.size+1+1,3,none⟩=false:=by have:=T.I.var; simp [World.frozen?,this]
 have t4:v2.cell? ⟨w.heap.size+1+1,4,none⟩=some (.slice none 0 0):=by have:=T.I.var; simp [World.cell?,this]
 have u4:v2.frozen? ⟨w.heap.size+1+1,4,none⟩=false:=by have:=T.I.var; simp [World.frozen?,this]
 replace T:=aA (T.I.set 3 (.slice (some ⟨S2,0,none⟩) k.parts.length k.parts.length));have HZ:Hid ((v2.setCell ⟨w.heap.size+1+1,3,none⟩ (.slice (some ⟨S2,0,none⟩) k.parts.length k.parts.length)).heap.size=v2.heap.size):=by show _=_; simp
 go_upto_region 5 with fail;generalize v2.setCell ⟨w.heap.size+1+1,3,none⟩ (.slice (some ⟨S2,0,none⟩) k.parts.length k.parts.length)=W2 at *;clear t0 t1 t2 t3 t4 u0 u1 u2 u3 u4;have s4:W2.cell? ⟨w.heap.size,4,none⟩=some (.slice k.qi k.eC.length k.tC):=by have:=T.I.src; simp [World.cell?,this]
 have Mb:=UG k.qi k.eC k.tC W2 HS.I.w8 (HC.I.eC.below T.I.cd);go_wp2_with fail;clear s4;refine Mb.mono ?_;clear Mb;rintro e v3 ⟨rfl,ho,hb3⟩;have hlt:=T.I.lt;replace T:=aA (T.I.call hb3 (G:=fun V=>V.ownsRow w.heap.size 80 4 (.slice (some ⟨W2.heap.size,0,none⟩) k.eC.length k.eC.length) k.eC.length (hM.flat k.eC)) (fun V hs hz=>cq (aL ho fun g hg=>hs g (by have:=(cf ho hg).1; omega) (cf ho hg).2) (by omega)));clear ho hb3 hlt;generalize W2.heap.size=S3 at *;have t0:v3.cell? ⟨w.heap.size+1+1,0,none⟩=some (.int .i64 k.now):=by have:=T.I.var; simp [World.cell?,this]
 have u0:v3.frozen? ⟨w.heap.size+1+1,0,none⟩=false:=by have:=T.I.var; simp [World.frozen?,this]
 have t1:v3.cell? ⟨w.heap.size+1+1,1,none⟩=some (.int .i64 k.major):=by have:=T.I.var; simp [World.cell?,this]
 have u1:v3.frozen? ⟨w.heap.size+1+1,1,none⟩=false:=by have:=T.I.var; simp [World.frozen?,this]
 have t2:v3.cell? ⟨w.heap.size+1+1,2,none⟩=some (.slice (some ⟨g1,0,none⟩) k.fn.length k.fn.length):=by have:=T.I.var; simp [World.cell?,this]
 have u2:v3.frozen? ⟨w.heap.size+1+1,2,none⟩=false:=by have:=T.I.var; simp [World.frozen?,this]
 have t3:v3.cell? ⟨w.heap.size+1+1,3,none⟩=some (.slice (some ⟨S2,0,none⟩) k.parts.length k.parts.length):=by have:=T.I.var; simp [World.cell?,this]
 have u3:v3.frozen? ⟨w.heap.size+1+1,3,none⟩=false:=by have:=T.I.var; simp [World.frozen?,this]
 have t4:v3.cell? ⟨w.heap.size+1+1,4,none⟩=some (.slice none 0 0):=by have:=T.I.var; simp [World.cell?,this]
 have u4:v3.frozen? ⟨w.heap.size+1+1,4,none⟩=false:=by have:=T.I.var; simp [World.frozen?,this]
 replace T:=aA (T.I.set 4 (.slice (some ⟨S3,0,none⟩) k.eC.length k.eC.length));go_upto_region 6 with fail;generalize v3.setCell ⟨w.heap.size+1+1,4,none⟩ (.slice (some ⟨S3,0,none⟩) k.eC.length k.eC.length)=W3 at *;clear t0 t1 t2 t3 t4 u0 u1 u2 u3 u4;have t0:W3.cell? ⟨w.heap.size+1+1,0,none⟩=some (.int .i64 k.now):=by have:=T.I.var; simp [World.cell?,this]
 have u0:W3.frozen? ⟨w.heap.size+1+1,0,none⟩=false:=by have:=T.I.var; simp [World.frozen?,this]
 have t1:W3.cell? ⟨w.heap.size+1+1,1,none⟩=some (.int .i64 k.major):=by have:=T.I.var; simp [World.cell?,this]
 have u1:W3.frozen? ⟨w.heap.size+1+1,1,none⟩=false:=by have:=T.I.var; simp [World.frozen?,this]
 have t2:W3.cell? ⟨w.heap.size+1+1,2,none⟩=some (.slice (some ⟨g1,0,none⟩) k.fn.length k.fn.length):=by have:=T.I.var; simp [World.cell?,this]
 have u2:W3.frozen? ⟨w.heap.size+1+1,2,none⟩=false:=by have:=T.I.var; simp [World.frozen?,this]
 have t3:W3.cell? ⟨w.heap.size+1+1,3,none⟩=some (.slice (some ⟨S2,0,none⟩) k.parts.length k.parts.length):=by have:=T.I.var; simp [World.cell?,this]
 have u3:W3.frozen? ⟨w.heap.size+1+1,3,none⟩=false:=by have:=T.I.var; simp [World.frozen?,this]
 have t4:W3.cell? ⟨w.heap.size+1+1,4,none⟩=some (.slice (some ⟨S3,0,none⟩) k.eC.length k.eC.length):=by have:=T.I.var; simp [World.cell?,this]
 have u4:W3.frozen? ⟨w.heap.size+1+1,4,none⟩=false:=by have:=T.I.var; simp [World.frozen?,this]
 have r0:W3.cell? ⟨w.heap.size+1,0,none⟩=some (.int .i64 0):=by have:=T.I.res; simp [World.cell?,this]
 have p0:W3.frozen? ⟨w.heap.size+1,0,none⟩=false:=by have:=T.I.res; simp [World.frozen?,this]
 have r1:W3.cell? ⟨w.heap.size+1,1,none⟩=some (.int .i64 0):=by have:=T.I.res; simp [World.cell?,this]
 have p1:W3.frozen? ⟨w.heap.size+1,1,none⟩=false:=by have:=T.I.res; simp [World.frozen?,this]
 have r2:W3.cell? ⟨w.heap.size+1,2,none⟩=some (.slice none 0 0):=by have:=T.I.res; simp [World.cell?,this]
 have p2:W3.frozen? ⟨w.heap.size+1,2,none⟩=false:=by have:=T.I.res; simp [World.frozen?,this]
 have r3:W3.cell? ⟨w.heap.size+1,3,none⟩=some (.slice none 0 0):=by have:=T.I.res; simp [World.cell?,this]
 have p3:W3.frozen? ⟨w.heap.size+1,3,none⟩=false:=by have:=T.I.res; simp [World.frozen?,this]
 have r4:W3.cell? ⟨w.heap.size+1,4,none⟩=some (.slice none 0 0):=by have:=T.I.res; simp [World.cell?,this]
 have p4:W3.frozen? ⟨w.heap.size+1,4,none⟩=false:=by have:=T.I.res; simp [World.frozen?,this]
 go_wp2;refine KT (v:= .agg #[.int .i64 k.now,.int .i64 k.major,.slice (some ⟨g1,0,none⟩) k.fn.length k.fn.length,.slice (some ⟨S2,0,none⟩) k.parts.length k.parts.length,.slice (some ⟨S3,0,none⟩) k.eC.length k.eC.length]) (by simp [results,Tryz.results10,go_sem, *]) rfl ?_;have hlen:I.length=k.parts.length:=by have:=congrArg List.length HP.I; simpa using this
 have h7:Below w.heap.size w (bn W3 (w.heap.size+1) 0 [.int .i64 k.now,.int .i64 k.major,.slice (some ⟨g1,0,none⟩) k.fn.length k.fn.length,.slice (some ⟨S2,0,none⟩) k.parts.length k.parts.length,.slice (some ⟨S3,0,none⟩) k.eC.length k.eC.length]):=eU _ (by omega) T.I.cd;have h8:=ni (vs:= [.int .i64 k.now,.int .i64 k.major,.slice (some ⟨g1,0,none⟩) k.fn.length k.fn.length,.slice (some ⟨S2,0,none⟩) k.parts.length k.parts.length,.slice (some ⟨S3,0,none⟩) k.eC.length k.eC.length]) T.I.keep;simp only [bn,Li,Nat.reduceAdd] at h7 h8;obtain ⟨⟨⟨-,h9,h10⟩,h11,h12⟩,h13⟩:=h8;exact ⟨⟨k.now,k.major,k.fn,some ⟨g1,0,none⟩,k.fn.length,I,some ⟨S2,0,none⟩,k.parts.length,k.eC,some ⟨S3,0,none⟩,k.eC.length⟩,g1,by simp only [eA.row,hlen],⟨h9,by simp only [hlen]; exact h11,h13,h12,by
  obtain ⟨n1,n2,n3,n4⟩:=HN.I;have n5:=HZ.I
  show (g1 :: S2 :: S3 :: I.flatMap af.Mc).Nodup
  simp only [List.nodup_cons,Kt,not_or];exact ⟨⟨by omega,by omega,fun hm=>by have:=n4 _ hm; omega⟩,⟨by omega,fun hm=>by have:=n4 _ hm; omega⟩,fun hm=>by have:=n4 _ hm; omega,n3⟩⟩,by simp only [eA.pure,HP.I],⟨rfl,h10⟩,h7⟩
structure kd.Small (k:kd):Prop where
 Ts:k.fn.length≤1048576
 sC:k.parts.length≤1048576
 w8:k.eC.length≤1048576
 win: ∀ j,-9223372036854775808≤sz k.fn j∧sz k.fn j≤9223372036854775807
 parts: ∀ p∈k.parts,p.Small
 eC: ∀ c∈k.eC,c.Wf
structure eA.Ints (k:eA):Prop where
 win: ∀ j,-9223372036854775808≤sz k.fn j∧sz k.fn j≤9223372036854775807
 parts: ∀ p∈k.parts,p.Ints
 eC: ∀ c∈k.eC,c.Wf
theorem Uy {k:eA} (h:k.yq) (hi:k.Ints):k.pure.Small:=
 ⟨h.Ts,by simpa [eA.pure] using h.sC,h.w8,hi.win,fun p hp=>by
  obtain ⟨q,hq,rfl⟩:=Lr.1 hp;exact UT (h.parts q hq) (hi.parts q hq),hi.eC⟩
theorem pC {k:eA} (h:k.pure.Small) {p:af} (hp:p∈k.parts):p.pure.Small:=h.parts p.pure (Lr.2 ⟨p,hp,rfl⟩)
theorem Ug {k:eA} (h:k.pure.Small):k.Fit:=
 ⟨h.Ts,by simpa [eA.pure] using h.sC,h.w8,h.win,fun p hp=>⟨dV (pC h hp),fun x hx=>(cY (pC h hp) hx).1⟩⟩
theorem Vz {w:World} {p:af} (h:af.At w p): ∀ r∈il p,Row w r.1 r.2:=fun r hr=>by
 simp only [il,Kg,Rt,Kt,Ku,or_false] at hr;rcases hr with ((hr | ⟨x,hx,hr⟩) | ⟨x,hx,hr⟩) | ⟨x,hx,hr⟩
 ·rcases hr with rfl | rfl | rfl | rfl | rfl | rfl
  ·exact h.1.1
  ·exact h.2.1.1
  ·exact h.2.2.1.1
  ·exact h.2.2.2.1.1
  ·exact h.2.2.2.2.1.1
  ·exact h.2.2.2.2.2.1
 ·exact h.1.2 x hx r hr
 ·exact h.2.2.2.2.1.2 x hx r hr
 ·exact h.2.2.2.2.2.2 x hx r hr
theorem gp.at {w:World} {base:Nat} {k:eA} (h:gp w base k):eA.At w k:=
 ⟨⟨nP h.fn,fun x _ r hr=>by simp [jq] at hr⟩,⟨nP h.parts,fun p hp=>Vz (h.mine p hp).at⟩,⟨nP h.eC,fun x _ r hr=>by simp [hM] at hr⟩⟩
theorem gp.below {w w':World} {base:Nat} {k:eA} (h:gp w base k) (hb:Below w.heap.size w w'):gp w' base k:=
 ⟨cR h.fn hb,cR h.parts hb,cR h.eC hb,fun p hp=>(h.mine p hp).below hb,h.nodup⟩
structure dg (w:World) (k:eA) (W:World):Prop where
 src:W.heap[w.heap.size]? =some (.cells k.row 28 (0,0))
 cd:Below w.heap.size w W
theorem dg.below {w W W2:World} {k:eA} (h:dg w k W) (hb:Below W.heap.size W W2):dg w k W2:=⟨(hb.block _ (J2.1 h.src).1).trans h.src,h.cd.trans (hb.mono h.cd.size)⟩
theorem dg.cells {w W:World} {k:eA} (h:dg w k W):W.cell? ⟨w.heap.size,0,none⟩=some (.int .i64 k.now)∧W.cell? ⟨w.heap.size,1,none⟩=some (.int .i64 k.major)∧W.cell? ⟨w.heap.size,2,none⟩=some (.slice k.vb k.fn.length k.Te)∧W.cell? ⟨w.heap.size,3,none⟩=some (.slice k.qn k.parts.length k.sa)∧W.cell? ⟨w.heap.size,4,none⟩=some (.slice k.qi k.eC.length k.tC):=by
 have h1:=h.src;simp [World.cell?,h1]
def A2:Prop:= ∀ (k:eA) (g base:Nat) (w:World),k.pure.Small→gp w base k→(k.vb=some ⟨g,0,none⟩∧g < w.heap.size)→Calls J3 11 #[.agg k.row] w fun e w'=>e= .returned (.bool (eP k.pure))∧Below w.heap.size w w'
theorem Tm (VJ:A2) (k:eA) (w:World) (hb:k.Ud) (hc:k.ep w) (hi:k.Ints):
  Calls J3 3 #[.agg k.row] w fun e w'=>e= .returned (.bool true)∧Below w.heap.size w w':=by
 have S:Hid (dg w k (w.alloc (.cells k.row 28))):=⟨Kj _ _,(Kp _ _).alloc (Ki _) _⟩
 have HB:=aA hb;have HC:=aA hc;have HI:=aA hi;have HM:=aA VJ;clear hb hc hi VJ
 go_enter Tryz.func3,Tryz.ntmps3
 go_upto_region 2 with fail;generalize w.alloc (.cells k.row 28)=W0 at *;obtain ⟨m0,m1,m2,m3,m4⟩:=S.I.cells;go_wp2_with fail;clear m0 m1 m2 m3 m4;refine (Um k 1048576 W0 HB.I (HC.I.below S.I.cd) (by omega) (by omega)).mono ?_;rintro e W1 ⟨r,rfl,r0,r1,hr,hb1⟩;replace S:=aA (S.I.below hb1);clear hb1;by_cases hneg:r < 0
 ·go_wp2
  go_ret;exact ⟨rfl,S.I.cd⟩
 have HS:Hid (k.yq∧k.pure.Small):=⟨(hr (by omega)).1,Uy (hr (by omega)).1 HI.I⟩
 clear hr;obtain ⟨m0,m1,m2,m3,m4⟩:=S.I.cells;go_wp2_with fail;clear m0 m1 m2 m3 m4;refine (xb k W1 HS.I.1 (HC.I.below S.I.cd)).mono ?_;rintro e W2 ⟨k2,g2,rfl,ho,hp,hg,hb2⟩;replace S:=aA (S.I.below hb2);have Mb:=FO k2 g2 W2 (Ug (by rw [hp]; exact HS.I.2)) hg ho.at;rw [hp] at Mb;clear hb2 ho hp hg;go_wp2_with fail;refine Mb.mono ?_;clear Mb;rintro e W3 ⟨rfl,hb3⟩;replace S:=aA (S.I.below hb3);clear hb3;obtain ⟨m0,m1,m2,m3,m4⟩:=S.I.cells;go_wp2_with fail;clear m0 m1 m2 m3 m4;refine (xb k W3 HS.I.1 (HC.I.below S.I.cd)).mono ?_;rintro e V4 ⟨k4,g4,rfl,ho,hp,hg,hb4⟩;have hz:Below V4.heap.size V4 (V4.alloc (.cells k4.row 37)):=(Kp _ _).alloc (Ki _) _;have HK:Hid (Tk (V4.alloc (.cells k4.row 37)) V4.heap.size k4∧gp (V4.alloc (.cells k4.row 37)) W3.heap.size k4∧(k4.vb=some ⟨g4,0,none⟩∧g4 < (V4.alloc (.cells k4.row 37)).heap.size)):=⟨Kj _ _,ho.below hz,hg.1,by have:=hz.size; omega⟩
 have HP:Hid (k4.pure=k.pure∧k4.pure.Small):=⟨hp,by rw [hp]; exact HS.I.2⟩
 replace S:=aA ((S.I.below hb4).below hz);clear ho hp hg hb4 hz;go_upto_region 7 with fail;generalize V4.alloc (.cells k4.row 37)=W4 at *;generalize V4.heap.size=X4 at *;have Mb:=HM.I k4 g4 W3.heap.size W4 HP.I.2 HK.I.2.1 HK.I.2.2;rw [HP.I.1] at Mb;obtain ⟨m0,m1,m2,m3,m4⟩:=HK.I.1.cells;go_wp2_with fail;clear m0 m1 m2 m3 m4;refine Mb.mono ?_;clear Mb;rintro e W5 ⟨rfl,iJ⟩;replace S:=aA (S.I.below iJ);replace HK:Hid (Tk W5 X4 k4∧gp W5 W3.heap.size k4):=⟨(iJ.block _ (J2.1 HK.I.1).1).trans HK.I.1,HK.I.2.1.below iJ⟩
 clear iJ;generalize eP k.pure=ok at *;have dn:(ok != ok)=false:=by simp
 go_upto_region 10 with fail;clear dn;replace S:=aA (S.I.below (Kp _ _).drew);replace HK:Hid (Tk W5.drew X4 k4∧gp W5.drew W3.heap.size k4):=⟨HK.I.1,HK.I.2.below (Kp _ _).drew⟩
 refine wp_region_held_drew (S:=fun W=>Tk W X4 k4∧dg w k W) (by kernel_rfl) ⟨HK.I.1,S.I⟩ (fun _=> ?_);generalize World.drew _=V at *;refine tt 0 ⟨HK.I.1,S.I⟩ ?_ (hy:=fun w0 hS0=>by obtain ⟨q0,q1,q2,q3,q4⟩:=hS0.1.cells; go_simp; try with_reducible rfl);refine tt 1 ⟨HK.I.1,S.I⟩ ?_ (hy:=fun w0 hS0=>by obtain ⟨q0,q1,q2,q3,q4⟩:=hS0.2.cells; go_simp; try with_reducible rfl);refine L7 2 (fun K hK=> ?_);go_wp2_with fail;refine (xb k V HS.I.1 (HC.I.below S.I.cd)).mono ?_;rintro e W6 ⟨k6,g6,rfl,ho,hp,-,jQ⟩;replace S:=aA (S.I.below jQ);replace HK:Hid (Tk W6 X4 k4∧gp W6 W3.heap.size k4):=⟨(jQ.block _ (J2.1 HK.I.1).1).trans HK.I.1,HK.I.2.below jQ⟩
 have Mb:=Uj k4 k6 W6 HP.I.2.Ts (by have:=HP.I.2.sC; simpa [eA.pure] using this) HP.I.2.w8 (fun x hx=>pC HP.I.2 hx) (hp.trans HP.I.1.symm) HK.I.2.at ho.at;clear ho hp jQ;refine hK.out _ _ ⟨HK.I.1,S.I⟩ (fun _=> ?_);clear hK K
 try simp only [pt,sb,s0,s1]
 refine L7 3 (fun K hK=> ?_);go_wp2_with fail;refine Mb.mono ?_;clear Mb;rintro e W7 ⟨rfl,gh⟩;replace S:=aA (S.I.below gh);replace HK:Hid (Tk W7 X4 k4):=(gh.block _ (J2.1 HK.I.1).1).trans HK.I.1;clear gh;refine hK.out _ _ ⟨HK.I,S.I⟩ (fun _=> ?_);clear hK K
 try simp only [pt,sb,s0,s1]
 refine tt 4 ⟨HK.I,S.I⟩ ?_;refine wpAnyH_done (by kernel_rfl) ?_ _;go_wp2;go_ret;exact ⟨rfl,S.I.cd⟩
theorem Tp: ∀ (l:List aE) (last:Int),aw (·.id) bK last l=true→last≤6→(l.length:Int)≤6 - last
 | [],_,_,h=>by simp; omega
 | x :: r,last,h,hl=>by
  simp only [aw,J7,decide_eq_true_eq] at h;have h1:=((ch _).1 h.1.2).id;rw [bz] at h1;have h2:=Tp r x.id h.2 (by omega);have h3:=h.1.1.2;simp only [List.length_cons,Int.natCast_add,Int.natCast_one];omega
theorem Sl {ops:Array Oper} {rest:List Oper} {op:Oper} {a:Act} {w:World} {Q:Exit→Act→World→Prop} (hgd:op.guard=none) (x y z:Operand) (ho:op.op= .build 107 #[(0,x),(1,y),(2,z)])
  (m:Int) (T:Array Value) (b:Nat) (cs:Array Value) (hx:a.eval x= .int .i64 m) (hy:a.eval y= .agg T) (hz:a.eval z= .map (some b)) (hb:Tryz.prog.built 107 [(0,.int .i64 m),(1,.agg T),(2,.map (some b))] =some cs)
  (h:wpList J3 ops Q rest (a.put op.dst (.agg cs)) w):wpList J3 ops Q (op :: rest) a w:=
 wpList_plain hgd fun _ hK=>by
  unfold Oper.wp execOp;simp only [ho,Sem.run_bind,List.map_toArray,List.map_cons,List.map_nil,hx,hy,hz,run_build w _ _ cs hb,Result.andThen_ok];exact hK _ _ h
structure VL (w:World) (k:kd) (K:Nat) (W:World):Prop where
 ex: ∃ (w1:World) (b:Nat) (tab:Array Value) (l:List (aZ × Nat)) (ls:List gi) (a:Option Addr) (cap:Nat),P2 k.major k.fn.length (sz k.fn) tab∧VK w1 K b l∧l.map (·.1.pure)=k.parts∧ls.map (·.c)=k.eC∧(∀ o∈ls,Joins l o)∧T1 w1 K b k.now tab a cap ls W∧w.heap.size≤b∧w.heap.size≤K
def KerEnd (w:World) (k:kd) (e:Ending) (W:World):Prop:=Below w.heap.size w W∧((eP k=false∧e= .returned (.tuple #[.pointer none,.bool false]))∨(eP k=true∧ ∃ K,e= .returned (.tuple #[.pointer (some ⟨K,0,none⟩),.bool true])∧VL w k K W))
theorem Pq (k:eA) (g:Nat) (w:World) (hs:k.pure.Small) (hat:eA.At w k) (hgood: ∀ p∈k.parts,p.Good w) (hg:k.vb=some ⟨g,0,none⟩∧g < w.heap.size):
  Calls J3 41 #[.agg k.row] w fun e W=>KerEnd w k.pure e W:=by
 have S:Hid (dr w w.heap.size k (w.alloc (.cells k.row 37))):=dr.first hat;have HS:=aA (And.intro hs (And.intro hgood hg));clear hs hat hgood;obtain ⟨T0,hT0⟩: ∃ T,tx=T:=⟨_,rfl⟩
 have Hz:Hid (tx=T0∧T0.size=62):=⟨hT0,by rw [← hT0]; exact ub⟩
 clear hT0
 go_enter Tryz.func41,Tryz.ntmps41
 go_upto_region 1 with fail;generalize w.alloc (.cells k.row 37)=W0 at *;generalize hX:w.heap.size=X at *;have HX:=aA hX;clear hX;obtain ⟨m0,m1,m2,m3,m4⟩:=S.I.box.cells;rw [HS.I.2.2.1] at m2;have Mb:=TV k.major g k.fn.length k.Te (sz k.fn) W0 HS.I.1.Ts HS.I.1.win (Uq (by have:=S.I.low.size; have:=HS.I.2.2.2; have:=HX.I; omega) (by have h:=S.I.MT.fn; rwa [HS.I.2.2.1] at h));clear hg;go_wp2_with fail;clear m0 m1 m2 m3 m4;refine Mb.mono ?_;clear Mb;intro e W1 hE;obtain ⟨T,r,rfl,HT,hb1⟩: ∃ T r,e= .returned (.tuple #[.agg T,.bool r])∧Hid (T.size=62∧T.all (·.oneCell')=true∧E4 k.major k.fn=r∧(r=true→P2 k.major k.fn.length (sz k.fn) T))∧Below W0.heap.size W0 W1:=by
  obtain ⟨⟨hf,cs,rfl,hc⟩ | ⟨hf,rfl⟩,hb⟩:=hE
  ·exact ⟨cs,true,rfl,⟨hc.1,hc.one,hf,fun _=>hc⟩,hb⟩
  ·exact ⟨tx,false,rfl,⟨ub,Tn,hf,fun h=>by cases h⟩,hb⟩
 replace S:=aA (S.I.below hb1);clear hE hb1;go_upto_region 2 with (first | (refine gq rfl rfl W1.heap.size rfl T0 Hz.I.1 ?_) | (refine fC rfl (.tmp 4) (.tmp 11) rfl W1.heap.size T (by rfl) (by rfl) T0 (by exact Kj _ _) Hz.I.2 HT.I.1 HT.I.2.1 ?_; rw [World.setRow_alloc_new]));have hz:Below W1.heap.size W1 (W1.alloc (.cells T 103)):=(Kp _ _).alloc (Ki _) _;have HTB:Hid ((W1.alloc (.cells T 103)).heap[W1.heap.size]? =some (.cells T 103 (0,0))):=Kj _ _;replace S:=aA (S.I.below hz);clear hz Hz;generalize W1.alloc (.cells T 103)=W2 at *;generalize W1.heap.size=Y at *;obtain ⟨m0,m1,m2,m3,m4⟩:=S.I.box.cells;have Ul:Hid (eP k.pure=(cv k.now 0 500000000 && r && decide (k.pure.parts.length≤6) && decide (k.eC.length≤10) && aw (·.id) bK 0 k.pure.parts && fA k.pure.parts [] k.eC)):=by show _=_; rw [← HT.I.2.2.1]; rfl
 cases r
 ·have HN:Hid (eP k.pure=false):=by show _=_; rw [Ul.I]; simp
  clear Ul;go_wp2;go_ret2;exact ⟨S.I.low,.inl ⟨HN.I,rfl⟩⟩
 by_cases h0:k.now < 0
 ·have HN:Hid (eP k.pure=false):=by show _=_; rw [Ul.I]; have:cv k.now 0 500000000=false:=(by cases h:cv k.now 0 500000000 with | false=>rfl | true=>(rw [bz] at h; omega)); rw [this]; rfl
  clear Ul;go_wp2;go_ret2;exact ⟨S.I.low,.inl ⟨HN.I,rfl⟩⟩
 by_cases h1:500000000 < k.now
 ·have HN:Hid (eP k.pure=false):=by show _=_; rw [Ul.I]; have:cv k.now 0 500000000=false:=(by cases h:cv k.now 0 500000000 with | false=>rfl | true=>(rw [bz] at h; omega)); rw [this]; rfl
  clear Ul;go_wp2;go_ret2;exact ⟨S.I.low,.inl ⟨HN.I,rfl⟩⟩
 obtain ⟨cs,hcs,hcz,hcc⟩:=UH k.now T W2.heap.size HT.I.1;have HCS:Hid (Tryz.prog.built 107 [(0,.int .i64 k.now),(1,.agg T),(2,.map (some W2.heap.size))] =some cs∧cs.size=65∧ ∀ j,j < 65→cs[j]? =some (B3 k.now T W2.heap.size none 0 0 j)):=⟨hcs,hcz,hcc⟩
 replace Ul:Hid (eP k.pure=(decide (k.pure.parts.length≤6) && decide (k.eC.length≤10) && aw (·.id) bK 0 k.pure.parts && fA k.pure.parts [] k.eC)):=by show _=_; rw [Ul.I]; have:cv k.now 0 500000000=true:=eB (by omega) (by omega); rw [this]; rfl
 clear hcs hcz hcc;have hmk:=run_makeMap (P:=J3) 104;go_upto_region 5 with (first | (refine wpList_load_row rfl 103 (.tmp 4) rfl Y (by rfl) 103 T (0,0) _ HTB.I Tryz.underlying103 rfl (by rw [Dw,HT.I.1]) ?_) | (refine Sl rfl (.tmp 26) (.tmp 27) (.tmp 28) rfl k.now T W2.heap.size cs (by rfl) (by rfl) (by rfl) HCS.I.1 ?_));clear m0 m1 m2 m3 m4 hmk h0 h1;have hsz:W2.heap.size+1=(W2.alloc (.map #[] 0)).heap.size:=by simp
 have hz:Below W2.heap.size W2 ((W2.alloc (.map #[] 0)).alloc (.cells cs 107)):=((Kp _ _).alloc (Ki _) _).alloc (by simp) _;have HW:Hid (cF ((W2.alloc (.map #[] 0)).alloc (.cells cs 107)) W2.heap.size [] ∧((W2.alloc (.map #[] 0)).alloc (.cells cs 107)).rowIs (W2.heap.size+1) 107 65 (B3 k.now T W2.heap.size none 0 0)∧((W2.alloc (.map #[] 0)).alloc (.cells cs 107)).heap.size=W2.heap.size+2):=⟨(cF.made W2).below ((Kp _ _).alloc (Ki _) _),by rw [hsz]; exact ⟨cs,Kj _ _,HCS.I.2.1,HCS.I.2.2⟩,by simp⟩
 have mO:Hid (Below W2.heap.size W2 ((W2.alloc (.map #[] 0)).alloc (.cells cs 107))∧kp.bU W2 k.qn k.parts∧hM.bU W2 k.qi k.eC∧(∀ p∈k.parts,p.Good W2)∧w.heap.size≤W2.heap.size):=⟨hz,S.I.MT.parts,S.I.MT.eC,fun p hp=>(HS.I.2.1 p hp).below S.I.low,S.I.low.size⟩
 have HLW:=aA S.I.low;have HS5:=aA S.I;replace S:=aA (S.I.below hz);clear hz hsz HCS HTB;generalize ((W2.alloc (.map #[] 0)).alloc (.cells cs 107))=W3 at *;have Mb:=Tr W2 W3 (W2.heap.size+1) W2.heap.size k.qn k.parts k.sa mO.I.1 (Ki _) (by rw [HW.I.2.2]; omega) (by omega) (HW.I.2.1.cell (i:=63) (by omega)) HW.I.1 (by have h:=HS.I.1.sC; simpa [eA.pure] using h) mO.I.2.1 mO.I.2.2.2.1;obtain ⟨m0,m1,m2,m3,m4⟩:=S.I.box.cells;go_wp2_with fail;clear m0 m1 m2 m3 m4;refine Mb.mono ?_;clear Mb;rintro e W4 ⟨hb4,⟨hno,rfl⟩ | ⟨fm,rfl,l,hl,hO⟩⟩
 ·have HN:Hid (eP k.pure=false∧Below w.heap.size w W4):=⟨by rw [Ul.I]; have:aw (·.id) bK 0 k.pure.parts=false:=hno; rw [this]; simp,HLW.I.trans (hb4.mono mO.I.2.2.2.2)⟩
  clear hno hb4;go_wp2;go_ret2;exact ⟨HN.I.2,.inl ⟨HN.I.1,rfl⟩⟩
 have HO:Hid (VK W4 (W2.heap.size+1) W2.heap.size l∧l.map (·.1.pure)=k.pure.parts∧W4.rowIs (W2.heap.size+1) 107 65 (B3 k.now T W2.heap.size none 0 0)∧Below W2.heap.size W2 W4):=by
  have hr:W4.rowIs (W2.heap.size+1) 107 65 (B3 k.now T W2.heap.size none 0 0):=HW.I.2.1.of_block hO.TN;exact ⟨⟨hO.map,fun p hp=>(hO.part p hp).imp fun _ h=>h.2,hO.nodup,by omega,hr.lt⟩,hl,hr,hO.low⟩
 have HKB2:Hid (eP k.pure=(decide (k.eC.length≤10) && fA k.pure.parts [] k.eC)):=by
  show _=_
  have hy:aw (·.id) bK 0 k.pure.parts=true:=fm;have hlen:=Tp _ _ hy (by omega);rw [Ul.I,hy,decide_eq_true (by omega)];simp
 replace S:=aA (HS5.I.below hb4);clear fm hl hO hb4 Ul;have Mb:=T3 W2 W4 (W2.heap.size+1) W2.heap.size k.now T l k.pure.parts k.eC k.qi k.tC HO.I.1 HO.I.2.1 HO.I.2.2.1 HO.I.2.2.2 (by omega) mO.I.2.2.1 HS.I.1.eC HS.I.1.w8;obtain ⟨m0,m1,m2,m3,m4⟩:=S.I.box.cells;go_wp2_with fail;clear m0 m1 m2 m3 m4;refine Mb.mono ?_;clear Mb;rintro e W5 ⟨hk5,⟨hno,rfl⟩ | ⟨fm,rfl,ls,a,cap,hls,hj,hL⟩⟩
 ·have HN:Hid (eP k.pure=false∧Below w.heap.size w W5):=⟨by rw [HKB2.I]; exact hno,HLW.I.trans ((HO.I.2.2.2.trans (hk5.below HO.I.2.2.2.size (fun g hg=>by rw [KB.1 hg]; omega))).mono mO.I.2.2.2.2)⟩
  clear hno hk5;go_wp2;go_ret2;exact ⟨HN.I.2,.inl ⟨HN.I.1,rfl⟩⟩
 have HN:Hid (eP k.pure=true∧Below w.heap.size w W5∧VL w k.pure (W2.heap.size+1) W5):=⟨by rw [HKB2.I]; exact fm,HLW.I.trans ((HO.I.2.2.2.trans (hk5.below HO.I.2.2.2.size (fun g hg=>by rw [KB.1 hg]; omega))).mono mO.I.2.2.2.2),⟨W4,W2.heap.size,T,l,ls,a,cap,HT.I.2.2.2 (by trivial),HO.I.1,HO.I.2.1,hls,hj,hL,mO.I.2.2.2.2,by have:=mO.I.2.2.2.2; omega⟩⟩
 clear fm hk5 hls hj hL;go_wp2;go_ret2;exact ⟨HN.I.2.1,.inr ⟨HN.I.1,_,rfl,HN.I.2.2⟩⟩
theorem U7 {w:World} {base:Nat} {k:eA} (hs:k.pure.Small) (ho:gp w base k): ∀ p∈k.parts,p.Good w:=fun p hp=>uG (pC hs hp) (ho.mine p hp)
theorem TF:A2:=by
 intro k g base w hs ho hg;have HS:=aA (And.intro hs (And.intro ho hg));have S:Hid (dr w w.heap.size k (w.alloc (.cells k.row 37))):=dr.first ho.at;have hz:Below w.heap.size w (w.alloc (.cells k.row 37)):=(Kp _ _).alloc (Ki _) _;have Mb:=Pq k g (w.alloc (.cells k.row 37)) hs (ho.at.below hz) (fun p hp=>(U7 hs ho p hp).below hz) ⟨hg.1,by have:=hz.size; omega⟩;clear hs ho hg hz
 go_enter Tryz.func11,Tryz.ntmps11
 go_upto_region 1 with fail;generalize w.alloc (.cells k.row 37)=W0 at *;obtain ⟨m0,m1,m2,m3,m4⟩:=S.I.box.cells;go_wp2_with fail;clear m0 m1 m2 m3 m4;refine Mb.mono ?_;clear Mb;rintro e W1 ⟨hb1,⟨hno,rfl⟩ | ⟨fm,K,rfl,-⟩⟩
 ·have HN:Hid (eP k.pure=false∧Below w.heap.size w W1):=⟨hno,S.I.low.trans (hb1.mono S.I.low.size)⟩
  clear hno hb1;go_wp2;go_ret;exact ⟨by rw [HN.I.1]; rfl,HN.I.2⟩
 ·have HN:Hid (eP k.pure=true∧Below w.heap.size w W1):=⟨fm,S.I.low.trans (hb1.mono S.I.low.size)⟩
  clear fm hb1;go_wp2;go_ret;exact ⟨by rw [HN.I.1]; rfl,HN.I.2⟩
theorem Tb (k:eA) (w:World) (hb:k.Ud) (hc:k.ep w) (hi:k.Ints):
  Calls J3 3 #[.agg k.row] w fun e w'=>e= .returned (.bool true)∧Below w.heap.size w w':=Tm TF k w hb hc hi
end
section
open Go.RowKit Go.ChangeShapes Go.WideShapes Go.Joins Go.Deep
section
variable {H:Type} {enc:TypeId × Value→H} {W:World}
theorem Uk {z:Int} (h:(Lit.int .i64 z).wf=true): -9223372036854775808≤z∧z≤9223372036854775807:=by
 have e1:IntKind.min .i64= -9223372036854775808:=by decide
 have e2:IntKind.max .i64=9223372036854775807:=by decide
 simp only [Lit.wf,J7,decide_eq_true_eq] at h;omega
theorem Un {fuel:Nat} {cs:List Value} {x:DataW H × List MemPlace} (h:DataW.trod enc J3 W 0 (fun _=>true) true fuel 237 cs=some x): ∃ y,cs=jq.vals y∧(fun y:pA=>(Lit.int .i64 y.at_).wf=true∧(Lit.int .i64 y.len).wf=true∧(Lit.int .i64 y.part).wf=true) y:=by
 obtain ⟨hlen,n,hf⟩:=mo Tryz.underlying237 (by kernel_rfl) h;rw [show Tryz.prog.cellsOf 237=3 by kernel_rfl] at hlen
 match cs,hlen with
 | [v0,v1,v2],_=>
  obtain ⟨y0,h0⟩:=hf 0 _ v0 rfl rfl;obtain ⟨a0,e0,-,w0⟩:=DataW.trod_int KN h0;obtain ⟨y1,h1⟩:=hf 1 _ v1 rfl rfl;obtain ⟨a1,e1,-,w1⟩:=DataW.trod_int KN h1;obtain ⟨y2,h2⟩:=hf 2 _ v2 rfl rfl;obtain ⟨a2,e2,-,w2⟩:=DataW.trod_int KN h2;simp only [List.cons.injEq,and_true] at e0 e1 e2;subst e0 e1 e2;exact ⟨⟨a0,a1,a2⟩,rfl,w0,w1,w2⟩
theorem TR {fuel:Nat} {cs:List Value} {x:DataW H × List MemPlace} (h:DataW.trod enc J3 W 0 (fun _=>true) true fuel 152 cs=some x): ∃ y,cs=hM.vals y∧eQ.Wf y:=by
 obtain ⟨hlen,n,hf⟩:=mo Tryz.underlying152 (by kernel_rfl) h;rw [show Tryz.prog.cellsOf 152=4 by kernel_rfl] at hlen
 match cs,hlen with
 | [v0,v1,v2,v3],_=>
  obtain ⟨y0,h0⟩:=hf 0 _ v0 rfl rfl;obtain ⟨a0,e0,-,w0⟩:=DataW.trod_int KN h0;obtain ⟨y1,h1⟩:=hf 1 _ v1 rfl rfl;obtain ⟨a1,e1,-,w1⟩:=DataW.trod_int KN h1;obtain ⟨y2,h2⟩:=hf 2 _ v2 rfl rfl;obtain ⟨a2,e2,-,w2⟩:=DataW.trod_int KN h2;obtain ⟨y3,h3⟩:=hf 3 _ v3 rfl rfl;obtain ⟨a3,e3,-,w3⟩:=DataW.trod_int KN h3;simp only [List.cons.injEq,and_true] at e0 e1 e2 e3;subst e0 e1 e2 e3;exact ⟨⟨a0,a1,a2,a3⟩,rfl,w0,w1,w2,w3⟩
theorem UL {p:af} (h:p.ep W): ∀ r∈il p,Src W r.1 r.2:=fun r hr=>by
 simp only [il,Kg,Rt,Kt,Ku,or_false] at hr;rcases hr with ((hr | ⟨x,hx,hr⟩) | ⟨x,hx,hr⟩) | ⟨x,hx,hr⟩
 ·rcases hr with rfl | rfl | rfl | rfl | rfl | rfl
  ·exact h.L8.1
  ·exact h.aj.1
  ·exact h.L9.1
  ·exact h.ag.1
  ·exact h.ae.1
  ·exact h.ai.1
 ·exact h.L8.2 x hx r hr
 ·exact h.ae.2 x hx r hr
 ·exact h.ai.2 x hx r hr
theorem Vh {l:List pA} (h: ∀ y∈l,(Lit.int .i64 y.at_).wf=true∧(Lit.int .i64 y.len).wf=true∧(Lit.int .i64 y.part).wf=true) (j:Nat): -9223372036854775808≤sz l j∧sz l j≤9223372036854775807:=by
 unfold sz;cases hx:l[j / 3]? with
 | none=>simp
 | some x=>
  obtain ⟨h0,h1,h2⟩:=h x (List.mem_of_getElem? hx);simp only
  split
  ·exact Uk h0
  ·split
   ·exact Uk h1
   ·exact Uk h2
theorem E2 {fuel:Nat} {cs:List Value} {x:DataW H × List MemPlace} (h:DataW.trod enc J3 W 0 (fun _=>true) true fuel 28 cs=some x): ∃ k:eA,cs=k.row.toList∧k.Ud∧k.ep W∧k.Ints:=by
 obtain ⟨xs,n,_,_,hlen,hl,hf⟩:=DataW.trod_struct Tryz.underlying28 h;rw [show Tryz.prog.cellsOf 28=5 by kernel_rfl] at hlen
 match cs,hlen,xs,hl with
 | [v0,v1,v2,v3,v4],_,[z0,z1,z2,z3],_=>
  have h0:DataW.trod enc J3 W 0 (fun _=>true) true n 2 [v0] =some z0:=by have h:=hf 0 _ rfl; exact (congrArg (DataW.trod enc J3 W 0 (fun _=>true) true n 2) (by show [v0] =(List.drop 0 [v0,v1,v2,v3,v4]).take (Tryz.prog.cellsOf 2); rw [show Tryz.prog.cellsOf 2=1 by kernel_rfl]; rfl)).trans h
  have h1:DataW.trod enc J3 W 0 (fun _=>true) true n 24 [v1,v2] =some z1:=by have h:=hf 1 _ rfl; exact (congrArg (DataW.trod enc J3 W 0 (fun _=>true) true n 24) (by show [v1,v2] =(List.drop 1 [v0,v1,v2,v3,v4]).take (Tryz.prog.cellsOf 24); rw [show Tryz.prog.cellsOf 24=2 by kernel_rfl]; rfl)).trans h
  have h2:DataW.trod enc J3 W 0 (fun _=>true) true n 25 [v3] =some z2:=by have h:=hf 2 _ rfl; exact (congrArg (DataW.trod enc J3 W 0 (fun _=>true) true n 25) (by show [v3] =(List.drop 3 [v0,v1,v2,v3,v4]).take (Tryz.prog.cellsOf 25); rw [show Tryz.prog.cellsOf 25=1 by kernel_rfl]; rfl)).trans h
  have h3:DataW.trod enc J3 W 0 (fun _=>true) true n 26 [v4] =some z3:=by have h:=hf 3 _ rfl; exact (congrArg (DataW.trod enc J3 W 0 (fun _=>true) true n 26) (by show [v4] =(List.drop 4 [v0,v1,v2,v3,v4]).take (Tryz.prog.cellsOf 26); rw [show Tryz.prog.cellsOf 26=1 by kernel_rfl]; rfl)).trans h
  obtain ⟨a0,e0,-,-⟩:=DataW.trod_int KN h0;obtain ⟨-,n1,hf1⟩:=mo Tryz.underlying24 (by kernel_rfl) h1;obtain ⟨y1,k1⟩:=hf1 0 _ v1 rfl rfl;obtain ⟨a1,e1,-,-⟩:=DataW.trod_int KN k1;obtain ⟨y2,k2⟩:=hf1 1 _ v2 rfl rfl;obtain ⟨b2,l2,c2,e2,q2,r2,g2⟩:=gk jq (fun y:pA=>(Lit.int .i64 y.at_).wf=true∧(Lit.int .i64 y.len).wf=true∧(Lit.int .i64 y.part).wf=true) Tryz.underlying22 (by kernel_rfl) (fun _ _ _ h=>Un h) k2;obtain ⟨b3,l3,c3,e3,q3,r3,g3⟩:=gk kp (fun p:af=>p.Ud∧p.ep W∧p.Ints) Tryz.underlying25 (by kernel_rfl) (fun _ _ _ h=>sA h) h2;obtain ⟨b4,l4,c4,e4,q4,r4,g4⟩:=gk hM eQ.Wf Tryz.underlying26 (by kernel_rfl) (fun _ _ _ h=>TR h) h3;simp only [List.cons.injEq,and_true] at e0 e1;subst e0 e1 e2 e3 e4;exact ⟨⟨a0,a1,l2,b2,c2,l3,b3,c3,l4,b4,c4⟩,rfl,⟨q2,q3,q4,fun p hp=>(g3 p hp).1⟩,⟨⟨r2,fun x hx r hr=>by simp [jq] at hr⟩,⟨r3,fun p hp=>UL (g3 p hp).2.1⟩,⟨r4,fun x hx r hr=>by simp [hM] at hr⟩⟩,⟨Vh g2,fun p hp=>(g3 p hp).2.2,g4⟩⟩
theorem T7 {r:Reach} {b0:Nat} {v:Value} {d:DataW H} {pl:List MemPlace} (hv:Value.okWide J3 W r b0 28 v) (h:DataW.Trod enc J3 W 0 (fun _=>true) true 28 v d pl): ∃ k:eA,v= .agg k.row∧k.Ud∧k.ep W∧k.Ints:=by
 obtain ⟨cs,rfl,hsz⟩:=okWide_struct Tryz.underlying28 hv;obtain ⟨fuel,hf⟩:=h;obtain ⟨k,hk,h1,h2,h3⟩:=E2 hf;refine ⟨k,?_,h1,h2,h3⟩;have e:cs.toList=k.row.toList:=by simpa [Value.cells] using hk
 rw [Array.toList_inj.1 e]
end
end
end Go.Proofs.YteidkehoekbcaaaGreat
