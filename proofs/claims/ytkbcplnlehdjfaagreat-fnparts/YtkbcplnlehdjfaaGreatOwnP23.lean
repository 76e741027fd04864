/- What the proof leans on, part 23. -/
import Derived.Test.YtkbcplnlehdjfaaGreatOwnP13
import Derived.Test.YtkbcplnlehdjfaaGreatOwnP22
set_option maxRecDepth 100000
set_option maxHeartbeats 8000000
open Go renaming bodyPost_ret->KT,heap_alloc_new->Kj,setRow_heap->KU,wpList_append_own_at->KD,wp_at_succ->Kd,wp_at_zero->Kc
open Go.Proofs.Tryz renaming prog->J3,underlying32->KV
open Go.RowKit.Below renaming heap_setCell->K6,refl->Kp
open Go.World renaming news_of_block->KE,ownsRow_nil->Ke
open List renaming getElem?_eq_getElem->Kz,length_map->KG,map_append->Kl,mem_of_getElem?->KA,take_length->LQ
open Nat renaming le_refl->Ki,zero_le->Ky
open Option renaming map_eq_some_iff->Kw
open Prod.mk renaming injEq->Kx

namespace Go.Proofs.YtkbcplnlehdjfaaGreat
section
open Go.RowKit
section
variable {α:Type} {N:gd α} {w w':World} {base g:Nat} {A B:List α} {x y:α}
structure fp (N:gd α) (w:World) (base g:Nat) (l:List α):Prop where
 mine: ∀ z∈l,N.cO w base z
 nodup:(g :: l.filterMap N.bt).Nodup
theorem fp.ju (h:fp N w base g (A ++ x :: B)) (hk:N.bt y=N.bt x) (hm:N.cO w base y):fp N w base g (A ++ y :: B):=by
 refine ⟨fun z hz=> ?_,?_⟩
 ·rcases List.mem_append.1 hz with hz | hz
  ·exact h.mine z (List.mem_append_left _ hz)
  ·rcases List.mem_cons.1 hz with rfl | hz
   ·exact hm
   ·exact h.mine z (List.mem_append_right _ (List.mem_cons_of_mem _ hz))
 ·have:=h.nodup
  rw [List.filterMap_append,List.filterMap_cons] at this ⊢;rw [hk];exact this
theorem fp.apart {l:List α} (h:fp N w base g l) {z:α} (hz:z∈l):g∉blk (N.ad z):=fun hm=>
 (List.nodup_cons.1 h.nodup).1 (List.mem_filterMap.2 ⟨z,hz,fZ.1 hm⟩)
end
end
section
open Go.RowKit
attribute [local go_sem ↓] Kc Kd





structure af.ep (w:World) (p:af):Prop where
 L8:bg.ep w p.aN p.L8
 aj:dm.ep w p.bc p.aj
 L9:bJ.ep w p.ay p.L9
 ag:bG.ep w p.ax p.ag
 ae:bm.ep w p.am p.ae
 ai:bX.ep w p.aK p.ai
theorem af.ep.below {w w':World} {p:af} (h:p.ep w) (hb:Below w.heap.size w w'):p.ep w':=⟨h.L8.below hb,h.aj.below hb,h.L9.below hb,h.ag.below hb,h.ae.below hb,h.ai.below hb⟩
structure CM (w W:World) (p:af) (cur:Array Value):Prop where
 src:W.heap[w.heap.size]? =some (.cells p.cells 73 (0,0))
 res:W.heap[w.heap.size+1]? =some (.cells ar 32 (0,0))
 var:W.heap[w.heap.size+1+1]? =some (.cells cur 32 (0,0))
 cd:Below w.heap.size w W
theorem CM.lt {w W:World} {p:af} {cur:Array Value} (h:CM w W p cur):w.heap.size+1+1 < W.heap.size:=(Array.getElem?_eq_some_iff.1 h.var).1
theorem CM.below {w W W':World} {p:af} {cur:Array Value} (h:CM w W p cur) (hb:Below W.heap.size W W'):CM w W' p cur:=by
 have:=h.lt
 exact ⟨(hb.block _ (by omega)).trans h.src,(hb.block _ (by omega)).trans h.res,(hb.block _ (by omega)).trans h.var,h.cd.trans (hb.mono h.cd.size)⟩
theorem CM.set {w W:World} {p:af} {cur:Array Value} (h:CM w W p cur) (i:Nat) (v:Value):CM w (W.setCell ⟨w.heap.size+1+1,i,none⟩ v) p (cur.setIfInBounds i v):=
 ⟨(K6 W _ v _ (by show ¬ w.heap.size=w.heap.size+1+1; omega)).trans h.src,(K6 W _ v _ (by show ¬ w.heap.size+1=w.heap.size+1+1; omega)).trans h.res,heap_setCell_same W _ i cur _ v h.var,h.cd.setCell (by show w.heap.size≤w.heap.size+1+1; omega) v⟩
end
section
open Go.RowKit
section
variable {ops:Array Oper} {rest:List Oper} {o:Oper} {a:Act} {w:World} {Q:Exit→Act→World→Prop} {fn:Func} {R:Ending→World→Prop} {p u:Tmp} {old:Array Value}
theorem eT (n:Nat) {g:Nat} {cs:Array Value} (hg:w.heap[g]? =some (.cells cs 32 (0,0))) (h:wpList J3 ops Q rest (a.put o.dst (.agg cs)) w) (hgd:o.guard=none:=by exact rfl) (ho:o.op= .load 32 (.tmp n):=by exact rfl)
  (hx:a.eval (.tmp n)= .pointer (some ⟨g,0,none⟩):=by rfl) (hi:(Tryz.prog.info? 32).map (·.size)=some cs.size:=by kernel_rfl):wpList J3 ops Q (o :: rest) a w:=
 wpList_load_row hgd 32 (.tmp n) ho g hx 32 cs (0,0) _ hg KV rfl hi h
theorem ec (n m:Nat) {g:Nat} (cs:Array Value) (hg:w.heap[g]? =some (.cells old 32 (0,0))) (h:wpList J3 ops Q rest (a.put o.dst undef) (w.setRow g cs)) (hgd:o.guard=none:=by exact rfl) (ho:o.op= .store 32 (.tmp n) (.tmp m):=by exact rfl)
  (hx:a.eval (.tmp n)= .pointer (some ⟨g,0,none⟩):=by exact rfl) (hy:a.eval (.tmp m)= .agg cs:=by exact rfl) (hi:(Tryz.prog.info? 32).map (·.size)=some cs.size:=by kernel_rfl) (hs:old.size=cs.size:=by exact rfl) (h1:cs.all (·.oneCell')=true:=by kernel_rfl):wpList J3 ops Q (o :: rest) a w:=
 wpList_store_row hgd 32 (.tmp n) (.tmp m) ho g _ old cs hx hy hg hi hs h1 h
theorem gZ (hr:fn.results= #[.cell p 32]) {g:Nat} {cs:Array Value} (hg:w.heap[g]? =some (.cells old 32 (0,0))) (h:R (.returned (.agg cs)) (w.setRow g cs)) (hp:a.tmps.getD p undef= .pointer (some ⟨g,0,none⟩):=by exact rfl) (hd:a.defers= [] :=by exact rfl)
  (hi:(Tryz.prog.info? 32).map (·.size)=some cs.size:=by kernel_rfl):bodyPost J3 fn R .ret a (w.setRow g cs):=
 KT (v:= .agg cs) (results_cell_row hr _ _ g _ _ (0,0) _ hp (KU _ _ _ _ _ _ hg) KV rfl hi) hd h
theorem mG (hr:fn.results= #[.cell p 32,.tmp u]) {g:Nat} {cs:Array Value} (v:Value) (hg:w.heap[g]? =some (.cells old 32 (0,0))) (h:R (.returned (.tuple #[.agg cs,v])) (w.setRow g cs)) (hp:a.tmps.getD p undef= .pointer (some ⟨g,0,none⟩):=by rfl) (hv:a.tmps.getD u undef=v:=by exact rfl) (hd:a.defers= [] :=by exact rfl)
  (hi:(Tryz.prog.info? 32).map (·.size)=some cs.size:=by kernel_rfl):bodyPost J3 fn R .ret a (w.setRow g cs):=
 KT (v:= .tuple #[.agg cs,v]) (by rw [← hv]; exact bL hr _ _ g _ _ _ _ hp (KU _ _ _ _ _ _ hg) KV rfl hi) hd h
end
def mY {α:Type} (K:Kind α) (T:TypeId) (w:World) (l:List α) (e:Ending) (w':World):Prop:= ∃ a cap,e= .returned (.slice a l.length cap)∧w'.ownsRow w.heap.size T K.n (.slice a l.length cap) l.length (K.flat l)∧Below w.heap.size w w'
end
section
open Go.RowKit
attribute [local go_sem ↓] Kc Kd



end
section
open Go.RowKit
theorem Ib {P:Program} {ops:Array Oper} {S:World→Prop} {o:Oper} {a:Act} (hw:Region.wanted o (yielded ops a.tmps)=true) (ty:TypeId) (x:Operand) (ho:o.op= .load ty x)
  (g:Nat) (hx:a.eval x= .pointer (some ⟨g,0,none⟩)) (t:TypeId) (cs:Array Value) (d:TypeDesc) (hS: ∀ w,S w→w.heap[g]? =some (.cells cs t (0,0)))
  (hu:P.underlying ty=some d) (hd:(match d with | .struct _ | .array _ _=>true | _=>false)=true) (hi:(P.info? ty).map (·.size)=some cs.size):YieldsIf P ops S o (.agg cs) a:=
 .inl ⟨hw,fun w hw'=>by
  unfold execOp;simp only [ho,hx,Instr.loadAt,Instr.sureAddr,Sem.run_bind,Sem.run_pure,Result.andThen_ok,run_loadVar_row w g t ty cs (0,0) d (hS w hw') hu hd hi]⟩
theorem FQ (p:af) (w:World) (hg:p.Good w):Calls J3 24 #[.agg p.cells] w fun e w'=>e= .returned (.bool (bK p.pure))∧Below w.heap.size w w':=by
 have HG:Hid (p.Good (w.alloc (.cells p.cells 32))∧Below w.heap.size w (w.alloc (.cells p.cells 32))):=⟨hg.below ((Kp _ _).alloc (Ki _) _),(Kp _ _).alloc (Ki _) _⟩
 clear hg;unfold af.cells at *
 go_enter Tryz.func24,Tryz.ntmps24
 go_wp2_with fail;generalize w.alloc (.cells p.row 32)=W at *;refine (iO p W HG.I.1).mono ?_;rintro e w1 ⟨hb1,⟨hno,rfl⟩ | ⟨fm,o,S,rfl,-,-⟩⟩
 ·have HZ:Hid (Below w.heap.size w w1∧bK p.pure=false):=⟨HG.I.2.trans (hb1.mono HG.I.2.size),dL hno⟩
  clear hb1 hno;go_wp2;go_ret;exact ⟨al HZ.I.2.symm,HZ.I.1⟩
 ·have HZ:Hid (Below w.heap.size w w1∧bK p.pure=true):=⟨HG.I.2.trans (hb1.mono HG.I.2.size),fP fm⟩
  clear hb1 fm;go_wp2;go_ret;exact ⟨al HZ.I.2.symm,HZ.I.1⟩
end
section
open Go.RowKit Go.Maps
theorem zj (Me:Int) (base b:Nat) (l:List (ao × Nat)) (w:World) (h:Shelf aX (fun x:ao=>x.id) 43 w base b l) (hl:l.length≤1048576) (hwf: ∀ p∈(RW (fun x:ao=>x.id) l),(Lit.int .i64 p.1).wf=true):
  Calls J3 165 #[.agg #[.int .i64 Me,.map (some b)]] w fun e w'=>mY bg 43 w (l.map (·.1)) e w':=by
 obtain ⟨i0,hi,e0⟩:=Kw.1 nb;simp only [Kx] at e0;have HI:Hid (Tryz.prog.info? 43=some i0∧i0.zero=some _∧i0.size=12∧i0.bytes=128):=⟨hi,e0⟩
 have H:Hid (Shelf aX (fun x:ao=>x.id) 43 (w.alloc (.cells #[.int .i64 Me,.map (some b)] 110)) base b l∧(∀ p∈(RW (fun x:ao=>x.id) l),(Lit.int .i64 p.1).wf=true)∧Below w.heap.size w (w.alloc (.cells #[.int .i64 Me,.map (some b)] 110))):=⟨h.below ((Kp _ _).alloc (Ki _) _),hwf,(Kp _ _).alloc (Ki _) _⟩
 have HK:Hid ((RW (fun x:ao=>x.id) l).length=l.length):=bZ l;clear h hwf hi e0
 go_enter Tryz.func165,Tryz.ntmps165
 go_wp2_with fail;generalize w.alloc (.cells #[.int .i64 Me,.map (some b)] 110)=W at *;refine (mq Me b (RW (fun x:ao=>x.id) l) W H.I.1.map (by rw [HK.I]; exact hl) H.I.2.1).mono ?_;rintro e w2 ⟨a,cap,rfl,hown,hb2⟩;obtain ⟨a',cap',hv,hrow⟩:=cr hown;cases hv;have HR:Hid (Row w2 a ((RW (fun x:ao=>x.id) l).map fun p=>dt p.2)):=hrow;have HO:Hid (Shelf aX (fun x:ao=>x.id) 43 w2 base b l∧Below w.heap.size w w2):=⟨H.I.1.below hb2,H.I.2.2.trans (hb2.mono H.I.2.2.size)⟩
 rw [HK.I];clear hown hrow hb2;go_wp2_with fail
 go_loopw [3,9] (fun t i wr=> ∃ k:Nat,k≤l.length∧i= .int .i64 k∧ ∃ a' cap',t= .slice a' k cap'∧Hid (wr.ownsRow w2.heap.size 43 12 (.slice a' k cap') k (bg.flat ((l.take k).map (·.1)))∧Below w2.heap.size w2 wr)) (fun _ i _=>l.length - (intOf i).toNat)
 case atStart=>exact ⟨0,Ky _,rfl,none,0,rfl,⟨Ke _ _ _ _,Kp _ _⟩⟩
 case round=>
  obtain ⟨k,hk,rfl,a',cap',rfl,HA⟩:=hrel;by_cases hlt:k < l.length
  ·have qE:(0:Int)≤(k:Int):=by omega
   have i1:(k:Int) < (l.length:Int):=by omega
   obtain ⟨p,hp⟩: ∃ p,l[k]? =some p:=⟨_,Kz hlt⟩
   obtain ⟨g,ha,hc⟩:=(HR.I.below HA.I.2) k (dt p.2) (by simp [RW,hp]);subst ha;unfold dt at hc;have HP:Hid (l[k]? =some p):=hp;obtain ⟨s0,s1,s2,s3,s4,s5,s6,s7,s8,s9,s10,s11⟩:=bo ((HO.I.1.below HA.I.2).box p (KA hp));have kT:=HA.I.2.size;clear hp;go_wp2_with (at_builtin; refine KD _ rfl _ _ 25 rfl w2.heap.size 43 i0 _ 12 128 Tryz.underlying25 HI.I.1 HI.I.2.1 HI.I.2.2.1 HI.I.2.2.2 rfl (by decide) (.slice a' k cap') k (bg.flat ((l.take k).map (·.1))) rfl (HA.I.1.alloc _) ⟨wr.heap.size,0,none⟩ 1 1 (bg.vals p.1) (by rfl) rfl (KE (cs:= #[.int .i64 p.1.id,.int .i64 p.1.RX,.slice p.1.aY p.1.prog.length p.1.bH,.int .i64 p.1.Md,.int .i64 p.1.pc,.int .i64 p.1.left,.int .i64 p.1.Mg,.int .i64 p.1.on,.string p.1.held,.string p.1.got,.int .i64 p.1.code,.int .i64 p.1.RU]) (t:=43) (fr:=(0,0)) (Kj wr _)) (by simp [bg,qN,Value.oneCell']) (by unfold maxLen; omega) (by omega) (by simp; omega) ?_; intro v' w5 hown' hgrow hnil jV; obtain ⟨a5,im,rfl,-⟩:=cr hown'; have HN:Hid (w5.ownsRow w2.heap.size 43 12 (.slice a5 (k+1) im) (k+1) (bg.flat ((l.take (k+1)).map (·.1)))∧Below w2.heap.size w2 w5):=⟨by rw [cj HP.I,Kl,bg.dc]; exact hown',(HA.I.2.alloc kT _).grown hgrow (by simp; omega) (fun q hq=>(HA.I.1.lt q hq).1)⟩; clear hown' hgrow hnil jV);go_roundw
   case rel=>exact ⟨k+1,by omega,by go_num,a5,im,rfl,HN⟩
   case measure=>simp [intOf]; omega
  ·have i1: ¬ (k:Int) < (l.length:Int):=by omega
   have ek:k=l.length:=by omega
   subst ek;go_wp2;go_ret;refine ⟨a',cap',by rw [KG]; rfl,?_,HO.I.2.trans (HA.I.2.mono HO.I.2.size)⟩;have h5:=cq HA.I.1 HO.I.2.size;rw [LQ] at h5;rw [KG];exact h5
theorem AN (Me:Int) (base b:Nat) (l:List (bD × Nat)) (w:World) (h:Shelf eH (fun x:bD=>x.id) 49 w base b l) (hl:l.length≤1048576) (hwf: ∀ p∈(RW (fun x:bD=>x.id) l),(Lit.int .i64 p.1).wf=true):
  Calls J3 166 #[.agg #[.int .i64 Me,.map (some b)]] w fun e w'=>mY dm 49 w (l.map (·.1)) e w':=by
 obtain ⟨i0,hi,e0⟩:=Kw.1 yS;simp only [Kx] at e0;have HI:Hid (Tryz.prog.info? 49=some i0∧i0.zero=some _∧i0.size=3∧i0.bytes=24):=⟨hi,e0⟩
 have H:Hid (Shelf eH (fun x:bD=>x.id) 49 (w.alloc (.cells #[.int .i64 Me,.map (some b)] 113)) base b l∧(∀ p∈(RW (fun x:bD=>x.id) l),(Lit.int .i64 p.1).wf=true)∧Below w.heap.size w (w.alloc (.cells #[.int .i64 Me,.map (some b)] 113))):=⟨h.below ((Kp _ _).alloc (Ki _) _),hwf,(Kp _ _).alloc (Ki _) _⟩
 have HK:Hid ((RW (fun x:bD=>x.id) l).length=l.length):=bZ l;clear h hwf hi e0
 go_enter Tryz.func166,Tryz.ntmps166
 go_wp2_with fail;generalize w.alloc (.cells #[.int .i64 Me,.map (some b)] 113)=W at *;refine (CS Me b (RW (fun x:bD=>x.id) l) W H.I.1.map (by rw [HK.I]; exact hl) H.I.2.1).mono ?_;rintro e w2 ⟨a,cap,rfl,hown,hb2⟩;obtain ⟨a',cap',hv,hrow⟩:=cr hown;cases hv;have HR:Hid (Row w2 a ((RW (fun x:bD=>x.id) l).map fun p=>dt p.2)):=hrow;have HO:Hid (Shelf eH (fun x:bD=>x.id) 49 w2 base b l∧Below w.heap.size w w2):=⟨H.I.1.below hb2,H.I.2.2.trans (hb2.mono H.I.2.2.size)⟩
 rw [HK.I];clear hown hrow hb2;go_wp2_with fail
 go_loopw [3,9] (fun t i wr=> ∃ k:Nat,k≤l.length∧i= .int .i64 k∧ ∃ a' cap',t= .slice a' k cap'∧Hid (wr.ownsRow w2.heap.size 49 3 (.slice a' k cap') k (dm.flat ((l.take k).map (·.1)))∧Below w2.heap.size w2 wr)) (fun _ i _=>l.length - (intOf i).toNat)
 case atStart=>exact ⟨0,Ky _,rfl,none,0,rfl,⟨Ke _ _ _ _,Kp _ _⟩⟩
 case round=>
  obtain ⟨k,hk,rfl,a',cap',rfl,HA⟩:=hrel;by_cases hlt:k < l.length
  ·have qE:(0:Int)≤(k:Int):=by omega
   have i1:(k:Int) < (l.length:Int):=by omega
   obtain ⟨p,hp⟩: ∃ p,l[k]? =some p:=⟨_,Kz hlt⟩
   obtain ⟨g,ha,hc⟩:=(HR.I.below HA.I.2) k (dt p.2) (by simp [RW,hp]);subst ha;unfold dt at hc;have HP:Hid (l[k]? =some p):=hp;obtain ⟨s0,s1,s2⟩:=gm ((HO.I.1.below HA.I.2).box p (KA hp));have kT:=HA.I.2.size;clear hp;go_wp2_with (at_builtin; refine KD _ rfl _ _ 26 rfl w2.heap.size 49 i0 _ 3 24 Tryz.underlying26 HI.I.1 HI.I.2.1 HI.I.2.2.1 HI.I.2.2.2 rfl (by decide) (.slice a' k cap') k (dm.flat ((l.take k).map (·.1))) rfl (HA.I.1.alloc _) ⟨wr.heap.size,0,none⟩ 1 1 (dm.vals p.1) (by rfl) rfl (KE (cs:= #[.int .i64 p.1.id,.int .i64 p.1.n,.int .i64 p.1.max]) (t:=49) (fr:=(0,0)) (Kj wr _)) (by simp [dm,yz,Value.oneCell']) (by unfold maxLen; omega) (by omega) (by simp; omega) ?_; intro v' w5 hown' hgrow hnil jV; obtain ⟨a5,im,rfl,-⟩:=cr hown'; have HN:Hid (w5.ownsRow w2.heap.size 49 3 (.slice a5 (k+1) im) (k+1) (dm.flat ((l.take (k+1)).map (·.1)))∧Below w2.heap.size w2 w5):=⟨by rw [cj HP.I,Kl,dm.dc]; exact hown',(HA.I.2.alloc kT _).grown hgrow (by simp; omega) (fun q hq=>(HA.I.1.lt q hq).1)⟩; clear hown' hgrow hnil jV);go_roundw
   case rel=>exact ⟨k+1,by omega,by go_num,a5,im,rfl,HN⟩
   case measure=>simp [intOf]; omega
  ·have i1: ¬ (k:Int) < (l.length:Int):=by omega
   have ek:k=l.length:=by omega
   subst ek;go_wp2;go_ret;refine ⟨a',cap',by rw [KG]; rfl,?_,HO.I.2.trans (HA.I.2.mono HO.I.2.size)⟩;have h5:=cq HA.I.1 HO.I.2.size;rw [LQ] at h5;rw [KG];exact h5
theorem wN (Me:Int) (base b:Nat) (l:List (aB × Nat)) (w:World) (h:Shelf cG (fun x:aB=>x.id) 138 w base b l) (hl:l.length≤1048576) (hwf: ∀ p∈(RW (fun x:aB=>x.id) l),(Lit.int .i64 p.1).wf=true):
  Calls J3 167 #[.agg #[.int .i64 Me,.map (some b)]] w fun e w'=>mY bJ 138 w (l.map (·.1)) e w':=by
 obtain ⟨i0,hi,e0⟩:=Kw.1 so;simp only [Kx] at e0;have HI:Hid (Tryz.prog.info? 138=some i0∧i0.zero=some _∧i0.size=2∧i0.bytes=16):=⟨hi,e0⟩
 have H:Hid (Shelf cG (fun x:aB=>x.id) 138 (w.alloc (.cells #[.int .i64 Me,.map (some b)] 116)) base b l∧(∀ p∈(RW (fun x:aB=>x.id) l),(Lit.int .i64 p.1).wf=true)∧Below w.heap.size w (w.alloc (.cells #[.int .i64 Me,.map (some b)] 116))):=⟨h.below ((Kp _ _).alloc (Ki _) _),hwf,(Kp _ _).alloc (Ki _) _⟩
 have HK:Hid ((RW (fun x:aB=>x.id) l).length=l.length):=bZ l;clear h hwf hi e0
 go_enter Tryz.func167,Tryz.ntmps167
 go_wp2_with fail;generalize w.alloc (.cells #[.int .i64 Me,.map (some b)] 116)=W at *;refine (yh Me b (RW (fun x:aB=>x.id) l) W H.I.1.map (by rw [HK.I]; exact hl) H.I.2.1).mono ?_;rintro e w2 ⟨a,cap,rfl,hown,hb2⟩;obtain ⟨a',cap',hv,hrow⟩:=cr hown;cases hv;have HR:Hid (Row w2 a ((RW (fun x:aB=>x.id) l).map fun p=>dt p.2)):=hrow;have HO:Hid (Shelf cG (fun x:aB=>x.id) 138 w2 base b l∧Below w.heap.size w w2):=⟨H.I.1.below hb2,H.I.2.2.trans (hb2.mono H.I.2.2.size)⟩
 rw [HK.I];clear hown hrow hb2;go_wp2_with fail
 go_loopw [3,9] (fun t i wr=> ∃ k:Nat,k≤l.length∧i= .int .i64 k∧ ∃ a' cap',t= .slice a' k cap'∧Hid (wr.ownsRow w2.heap.size 138 2 (.slice a' k cap') k (bJ.flat ((l.take k).map (·.1)))∧Below w2.heap.size w2 wr)) (fun _ i _=>l.length - (intOf i).toNat)
 case atStart=>exact ⟨0,Ky _,rfl,none,0,rfl,⟨Ke _ _ _ _,Kp _ _⟩⟩
 case round=>
  obtain ⟨k,hk,rfl,a',cap',rfl,HA⟩:=hrel;by_cases hlt:k < l.length
  ·have qE:(0:Int)≤(k:Int):=by omega
   have i1:(k:Int) < (l.length:Int):=by omega
   obtain ⟨p,hp⟩: ∃ p,l[k]? =some p:=⟨_,Kz hlt⟩
   obtain ⟨g,ha,hc⟩:=(HR.I.below HA.I.2) k (dt p.2) (by simp [RW,hp]);subst ha;unfold dt at hc;have HP:Hid (l[k]? =some p):=hp;obtain ⟨s0,s1⟩:=kF ((HO.I.1.below HA.I.2).box p (KA hp));have kT:=HA.I.2.size;clear hp;go_wp2_with (at_builtin; refine KD _ rfl _ _ 27 rfl w2.heap.size 138 i0 _ 2 16 Tryz.underlying27 HI.I.1 HI.I.2.1 HI.I.2.2.1 HI.I.2.2.2 rfl (by decide) (.slice a' k cap') k (bJ.flat ((l.take k).map (·.1))) rfl (HA.I.1.alloc _) ⟨wr.heap.size,0,none⟩ 1 1 (bJ.vals p.1) (by rfl) rfl (KE (cs:= #[.int .i64 p.1.id,.bool p.1.up]) (t:=138) (fr:=(0,0)) (Kj wr _)) (by simp [bJ,rY,Value.oneCell']) (by unfold maxLen; omega) (by omega) (by simp; omega) ?_; intro v' w5 hown' hgrow hnil jV; obtain ⟨a5,im,rfl,-⟩:=cr hown'; have HN:Hid (w5.ownsRow w2.heap.size 138 2 (.slice a5 (k+1) im) (k+1) (bJ.flat ((l.take (k+1)).map (·.1)))∧Below w2.heap.size w2 w5):=⟨by rw [cj HP.I,Kl,bJ.dc]; exact hown',(HA.I.2.alloc kT _).grown hgrow (by simp; omega) (fun q hq=>(HA.I.1.lt q hq).1)⟩; clear hown' hgrow hnil jV);go_roundw
   case rel=>exact ⟨k+1,by omega,by go_num,a5,im,rfl,HN⟩
   case measure=>simp [intOf]; omega
  ·have i1: ¬ (k:Int) < (l.length:Int):=by omega
   have ek:k=l.length:=by omega
   subst ek;go_wp2;go_ret;refine ⟨a',cap',by rw [KG]; rfl,?_,HO.I.2.trans (HA.I.2.mono HO.I.2.size)⟩;have h5:=cq HA.I.1 HO.I.2.size;rw [LQ] at h5;rw [KG];exact h5
theorem wC (Me:Int) (base b:Nat) (l:List (az × Nat)) (w:World) (h:Shelf cI (fun x:az=>x.id) 141 w base b l) (hl:l.length≤1048576) (hwf: ∀ p∈(RW (fun x:az=>x.id) l),(Lit.int .i64 p.1).wf=true):
  Calls J3 168 #[.agg #[.int .i64 Me,.map (some b)]] w fun e w'=>mY bG 141 w (l.map (·.1)) e w':=by
 obtain ⟨i0,hi,e0⟩:=Kw.1 sj;simp only [Kx] at e0;have HI:Hid (Tryz.prog.info? 141=some i0∧i0.zero=some _∧i0.size=3∧i0.bytes=32):=⟨hi,e0⟩
 have H:Hid (Shelf cI (fun x:az=>x.id) 141 (w.alloc (.cells #[.int .i64 Me,.map (some b)] 119)) base b l∧(∀ p∈(RW (fun x:az=>x.id) l),(Lit.int .i64 p.1).wf=true)∧Below w.heap.size w (w.alloc (.cells #[.int .i64 Me,.map (some b)] 119))):=⟨h.below ((Kp _ _).alloc (Ki _) _),hwf,(Kp _ _).alloc (Ki _) _⟩
 have HK:Hid ((RW (fun x:az=>x.id) l).length=l.length):=bZ l;clear h hwf hi e0
 go_enter Tryz.func168,Tryz.ntmps168
 go_wp2_with fail;generalize w.alloc (.cells #[.int .i64 Me,.map (some b)] 119)=W at *;refine (yB Me b (RW (fun x:az=>x.id) l) W H.I.1.map (by rw [HK.I]; exact hl) H.I.2.1).mono ?_;rintro e w2 ⟨a,cap,rfl,hown,hb2⟩;obtain ⟨a',cap',hv,hrow⟩:=cr hown;cases hv;have HR:Hid (Row w2 a ((RW (fun x:az=>x.id) l).map fun p=>dt p.2)):=hrow;have HO:Hid (Shelf cI (fun x:az=>x.id) 141 w2 base b l∧Below w.heap.size w w2):=⟨H.I.1.below hb2,H.I.2.2.trans (hb2.mono H.I.2.2.size)⟩
 rw [HK.I];clear hown hrow hb2;go_wp2_with fail
 go_loopw [3,9] (fun t i wr=> ∃ k:Nat,k≤l.length∧i= .int .i64 k∧ ∃ a' cap',t= .slice a' k cap'∧Hid (wr.ownsRow w2.heap.size 141 3 (.slice a' k cap') k (bG.flat ((l.take k).map (·.1)))∧Below w2.heap.size w2 wr)) (fun _ i _=>l.length - (intOf i).toNat)
 case atStart=>exact ⟨0,Ky _,rfl,none,0,rfl,⟨Ke _ _ _ _,Kp _ _⟩⟩
 case round=>
  obtain ⟨k,hk,rfl,a',cap',rfl,HA⟩:=hrel;by_cases hlt:k < l.length
  ·have qE:(0:Int)≤(k:Int):=by omega
   have i1:(k:Int) < (l.length:Int):=by omega
   obtain ⟨p,hp⟩: ∃ p,l[k]? =some p:=⟨_,Kz hlt⟩
   obtain ⟨g,ha,hc⟩:=(HR.I.below HA.I.2) k (dt p.2) (by simp [RW,hp]);subst ha;unfold dt at hc;have HP:Hid (l[k]? =some p):=hp;obtain ⟨s0,s1,s2⟩:=kJ ((HO.I.1.below HA.I.2).box p (KA hp));have kT:=HA.I.2.size;clear hp;go_wp2_with (at_builtin; refine KD _ rfl _ _ 28 rfl w2.heap.size 141 i0 _ 3 32 Tryz.underlying28 HI.I.1 HI.I.2.1 HI.I.2.2.1 HI.I.2.2.2 rfl (by decide) (.slice a' k cap') k (bG.flat ((l.take k).map (·.1))) rfl (HA.I.1.alloc _) ⟨wr.heap.size,0,none⟩ 1 1 (bG.vals p.1) (by rfl) rfl (KE (cs:= #[.int .i64 p.1.id,.bool p.1.shown,.string p.1.text]) (t:=141) (fr:=(0,0)) (Kj wr _)) (by simp [bG,sn,Value.oneCell']) (by unfold maxLen; omega) (by omega) (by simp; omega) ?_; intro v' w5 hown' hgrow hnil jV; obtain ⟨a5,im,rfl,-⟩:=cr hown'; have HN:Hid (w5.ownsRow w2.heap.size 141 3 (.slice a5 (k+1) im) (k+1) (bG.flat ((l.take (k+1)).map (·.1)))∧Below w2.heap.size w2 w5):=⟨by rw [cj HP.I,Kl,bG.dc]; exact hown',(HA.I.2.alloc kT _).grown hgrow (by simp; omega) (fun q hq=>(HA.I.1.lt q hq).1)⟩; clear hown' hgrow hnil jV);go_roundw
   case rel=>exact ⟨k+1,by omega,by go_num,a5,im,rfl,HN⟩
   case measure=>simp [intOf]; omega
  ·have i1: ¬ (k:Int) < (l.length:Int):=by omega
   have ek:k=l.length:=by omega
   subst ek;go_wp2;go_ret;refine ⟨a',cap',by rw [KG]; rfl,?_,HO.I.2.trans (HA.I.2.mono HO.I.2.size)⟩;have h5:=cq HA.I.1 HO.I.2.size;rw [LQ] at h5;rw [KG];exact h5
theorem uk (Me:Int) (base b:Nat) (l:List (au × Nat)) (w:World) (h:Shelf bQ (fun x:au=>x.id) 144 w base b l) (hl:l.length≤1048576) (hwf: ∀ p∈(RW (fun x:au=>x.id) l),(Lit.int .i64 p.1).wf=true):
  Calls J3 169 #[.agg #[.int .i64 Me,.map (some b)]] w fun e w'=>mY bm 144 w (l.map (·.1)) e w':=by
 obtain ⟨i0,hi,e0⟩:=Kw.1 kh;simp only [Kx] at e0;have HI:Hid (Tryz.prog.info? 144=some i0∧i0.zero=some _∧i0.size=3∧i0.bytes=40):=⟨hi,e0⟩
 have H:Hid (Shelf bQ (fun x:au=>x.id) 144 (w.alloc (.cells #[.int .i64 Me,.map (some b)] 122)) base b l∧(∀ p∈(RW (fun x:au=>x.id) l),(Lit.int .i64 p.1).wf=true)∧Below w.heap.size w (w.alloc (.cells #[.int .i64 Me,.map (some b)] 122))):=⟨h.below ((Kp _ _).alloc (Ki _) _),hwf,(Kp _ _).alloc (Ki _) _⟩
 have HK:Hid ((RW (fun x:au=>x.id) l).length=l.length):=bZ l;clear h hwf hi e0
 go_enter Tryz.func169,Tryz.ntmps169
 go_wp2_with fail;generalize w.alloc (.cells #[.int .i64 Me,.map (some b)] 122)=W at *;refine (wF Me b (RW (fun x:au=>x.id) l) W H.I.1.map (by rw [HK.I]; exact hl) H.I.2.1).mono ?_;rintro e w2 ⟨a,cap,rfl,hown,hb2⟩;obtain ⟨a',cap',hv,hrow⟩:=cr hown;cases hv;have HR:Hid (Row w2 a ((RW (fun x:au=>x.id) l).map fun p=>dt p.2)):=hrow;have HO:Hid (Shelf bQ (fun x:au=>x.id) 144 w2 base b l∧Below w.heap.size w w2):=⟨H.I.1.below hb2,H.I.2.2.trans (hb2.mono H.I.2.2.size)⟩
 rw [HK.I];clear hown hrow hb2;go_wp2_with fail
 go_loopw [3,9] (fun t i wr=> ∃ k:Nat,k≤l.length∧i= .int .i64 k∧ ∃ a' cap',t= .slice a' k cap'∧Hid (wr.ownsRow w2.heap.size 144 3 (.slice a' k cap') k (bm.flat ((l.take k).map (·.1)))∧Below w2.heap.size w2 wr)) (fun _ i _=>l.length - (intOf i).toNat)
 case atStart=>exact ⟨0,Ky _,rfl,none,0,rfl,⟨Ke _ _ _ _,Kp _ _⟩⟩
 case round=>
  obtain ⟨k,hk,rfl,a',cap',rfl,HA⟩:=hrel;by_cases hlt:k < l.length
  ·have qE:(0:Int)≤(k:Int):=by omega
   have i1:(k:Int) < (l.length:Int):=by omega
   obtain ⟨p,hp⟩: ∃ p,l[k]? =some p:=⟨_,Kz hlt⟩
   obtain ⟨g,ha,hc⟩:=(HR.I.below HA.I.2) k (dt p.2) (by simp [RW,hp]);subst ha;unfold dt at hc;have HP:Hid (l[k]? =some p):=hp;obtain ⟨s0,s1,s2⟩:=ia ((HO.I.1.below HA.I.2).box p (KA hp));have kT:=HA.I.2.size;clear hp;go_wp2_with (at_builtin; refine KD _ rfl _ _ 29 rfl w2.heap.size 144 i0 _ 3 40 Tryz.underlying29 HI.I.1 HI.I.2.1 HI.I.2.2.1 HI.I.2.2.2 rfl (by decide) (.slice a' k cap') k (bm.flat ((l.take k).map (·.1))) rfl (HA.I.1.alloc _) ⟨wr.heap.size,0,none⟩ 1 1 (bm.vals p.1) (by rfl) rfl (KE (cs:= #[.int .i64 p.1.id,.int .i64 p.1.max,.slice p.1.ak p.1.Ma.length p.1.aq]) (t:=144) (fr:=(0,0)) (Kj wr _)) (by simp [bm,nD,Value.oneCell']) (by unfold maxLen; omega) (by omega) (by simp; omega) ?_; intro v' w5 hown' hgrow hnil jV; obtain ⟨a5,im,rfl,-⟩:=cr hown'; have HN:Hid (w5.ownsRow w2.heap.size 144 3 (.slice a5 (k+1) im) (k+1) (bm.flat ((l.take (k+1)).map (·.1)))∧Below w2.heap.size w2 w5):=⟨by rw [cj HP.I,Kl,bm.dc]; exact hown',(HA.I.2.alloc kT _).grown hgrow (by simp; omega) (fun q hq=>(HA.I.1.lt q hq).1)⟩; clear hown' hgrow hnil jV);go_roundw
   case rel=>exact ⟨k+1,by omega,by go_num,a5,im,rfl,HN⟩
   case measure=>simp [intOf]; omega
  ·have i1: ¬ (k:Int) < (l.length:Int):=by omega
   have ek:k=l.length:=by omega
   subst ek;go_wp2;go_ret;refine ⟨a',cap',by rw [KG]; rfl,?_,HO.I.2.trans (HA.I.2.mono HO.I.2.size)⟩;have h5:=cq HA.I.1 HO.I.2.size;rw [LQ] at h5;rw [KG];exact h5
theorem zf (Me:Int) (base b:Nat) (l:List (aM × Nat)) (w:World) (h:Shelf cW (fun x:aM=>x.id) 61 w base b l) (hl:l.length≤1048576) (hwf: ∀ p∈(RW (fun x:aM=>x.id) l),(Lit.int .i64 p.1).wf=true):
  Calls J3 170 #[.agg #[.int .i64 Me,.map (some b)]] w fun e w'=>mY bX 61 w (l.map (·.1)) e w':=by
 obtain ⟨i0,hi,e0⟩:=Kw.1 na;simp only [Kx] at e0;have HI:Hid (Tryz.prog.info? 61=some i0∧i0.zero=some _∧i0.size=5∧i0.bytes=48):=⟨hi,e0⟩
 have H:Hid (Shelf cW (fun x:aM=>x.id) 61 (w.alloc (.cells #[.int .i64 Me,.map (some b)] 125)) base b l∧(∀ p∈(RW (fun x:aM=>x.id) l),(Lit.int .i64 p.1).wf=true)∧Below w.heap.size w (w.alloc (.cells #[.int .i64 Me,.map (some b)] 125))):=⟨h.below ((Kp _ _).alloc (Ki _) _),hwf,(Kp _ _).alloc (Ki _) _⟩
 have HK:Hid ((RW (fun x:aM=>x.id) l).length=l.length):=bZ l;clear h hwf hi e0
 go_enter Tryz.func170,Tryz.ntmps170
 go_wp2_with fail;generalize w.alloc (.cells #[.int .i64 Me,.map (some b)] 125)=W at *;refine (Bx Me b (RW (fun x:aM=>x.id) l) W H.I.1.map (by rw [HK.I]; exact hl) H.I.2.1).mono ?_;rintro e w2 ⟨a,cap,rfl,hown,hb2⟩;obtain ⟨a',cap',hv,hrow⟩:=cr hown;cases hv;have HR:Hid (Row w2 a ((RW (fun x:aM=>x.id) l).map fun p=>dt p.2)):=hrow;have HO:Hid (Shelf cW (fun x:aM=>x.id) 61 w2 base b l∧Below w.heap.size w w2):=⟨H.I.1.below hb2,H.I.2.2.trans (hb2.mono H.I.2.2.size)⟩
 rw [HK.I];clear hown hrow hb2;go_wp2_with fail
 go_loopw [3,9] (fun t i wr=> ∃ k:Nat,k≤l.length∧i= .int .i64 k∧ ∃ a' cap',t= .slice a' k cap'∧Hid (wr.ownsRow w2.heap.size 61 5 (.slice a' k cap') k (bX.flat ((l.take k).map (·.1)))∧Below w2.heap.size w2 wr)) (fun _ i _=>l.length - (intOf i).toNat)
 case atStart=>exact ⟨0,Ky _,rfl,none,0,rfl,⟨Ke _ _ _ _,Kp _ _⟩⟩
 case round=>
  obtain ⟨k,hk,rfl,a',cap',rfl,HA⟩:=hrel;by_cases hlt:k < l.length
  ·have qE:(0:Int)≤(k:Int):=by omega
   have i1:(k:Int) < (l.length:Int):=by omega
   obtain ⟨p,hp⟩: ∃ p,l[k]? =some p:=⟨_,Kz hlt⟩
   obtain ⟨g,ha,hc⟩:=(HR.I.below HA.I.2) k (dt p.2) (by simp [RW,hp]);subst ha;unfold dt at hc;have HP:Hid (l[k]? =some p):=hp;obtain ⟨s0,s1,s2,s3,s4⟩:=gE ((HO.I.1.below HA.I.2).box p (KA hp));have kT:=HA.I.2.size;clear hp;go_wp2_with (at_builtin; refine KD _ rfl _ _ 30 rfl w2.heap.size 61 i0 _ 5 48 Tryz.underlying30 HI.I.1 HI.I.2.1 HI.I.2.2.1 HI.I.2.2.2 rfl (by decide) (.slice a' k cap') k (bX.flat ((l.take k).map (·.1))) rfl (HA.I.1.alloc _) ⟨wr.heap.size,0,none⟩ 1 1 (bX.vals p.1) (by rfl) rfl (KE (cs:= #[.int .i64 p.1.id,.bool p.1.I,.bool p.1.Mf,.int .i64 p.1.max,.slice p.1.ak p.1.Ma.length p.1.aq]) (t:=61) (fr:=(0,0)) (Kj wr _)) (by simp [bX,qT,Value.oneCell']) (by unfold maxLen; omega) (by omega) (by simp; omega) ?_; intro v' w5 hown' hgrow hnil jV; obtain ⟨a5,im,rfl,-⟩:=cr hown'; have HN:Hid (w5.ownsRow w2.heap.size 61 5 (.slice a5 (k+1) im) (k+1) (bX.flat ((l.take (k+1)).map (·.1)))∧Below w2.heap.size w2 w5):=⟨by rw [cj HP.I,Kl,bX.dc]; exact hown',(HA.I.2.alloc kT _).grown hgrow (by simp; omega) (fun q hq=>(HA.I.1.lt q hq).1)⟩; clear hown' hgrow hnil jV);go_roundw
   case rel=>exact ⟨k+1,by omega,by go_num,a5,im,rfl,HN⟩
   case measure=>simp [intOf]; omega
  ·have i1: ¬ (k:Int) < (l.length:Int):=by omega
   have ek:k=l.length:=by omega
   subst ek;go_wp2;go_ret;refine ⟨a',cap',by rw [KG]; rfl,?_,HO.I.2.trans (HA.I.2.mono HO.I.2.size)⟩;have h5:=cq HA.I.1 HO.I.2.size;rw [LQ] at h5;rw [KG];exact h5
end
end Go.Proofs.YtkbcplnlehdjfaaGreat
