/- What the proof leans on, part 18. -/
import Derived.Test.YteidkehoekbcaaaGreatOwnK15
import Derived.Test.YteidkehoekbcaaaGreatOwnK16
import Derived.LaidEql
set_option maxRecDepth 100000
set_option maxHeartbeats 8000000
open Array renaming getElem?_eq_some_iff->J2
open Go renaming wp_at_succ->Kd,wp_at_zero->Kc
open Go.Proofs.Tryz renaming prog->J3
open Go.RowKit.Below renaming refl->Kp
open Go.Value.slice renaming injEq->LD
open List renaming getElem?_eq_getElem->Kz,length_take->Lk,mem_append->Kg,mem_cons->Kt,mem_map->Lr,not_mem_nil->Ku,take_length->LQ
open Nat renaming le_refl->Ki,zero_le->Ky
open Option renaming map_eq_some_iff->Kw
open Option.some renaming injEq->LF
open Prod.mk renaming injEq->Kx

namespace Go.Proofs.YteidkehoekbcaaaGreat
section
open Go.RowKit
attribute [local go_sem ↓] Kc Kd
theorem Dq (a:Option Addr) (l:List aB) (cap:Nat) (left:Int) (w:World) (hl:l.length≤maxLen) (h0:0≤left) (h1:left≤1048576):
  Calls J3 80 #[.slice a l.length cap,.int .i64 left] w fun e w'=>jZ w left (l.length) (l.length≤1048576) e w':=by
 have hl':=hl;unfold maxLen at hl';by_cases hn:left - (l.length:Int) < 0
 ·go_enter Tryz.func80,Tryz.ntmps80
  go_wp2;go_ret;exact cT (Kp _ _) h0
 go_enter Tryz.func80,Tryz.ntmps80
 go_wp2;go_ret;exact ⟨left - (l.length:Int),rfl,by omega,by omega,fun _=>⟨by omega,by omega⟩,Kp _ _⟩
theorem E8 (x:aB) (w:World):Calls J3 136 #[.agg #[.int .i64 x.id,.bool x.up]] w fun e w'=>e= .returned (.agg #[.int .i64 x.id,.bool x.up])∧Below w.heap.size w w':=by
 go_enter Tryz.func136,Tryz.ntmps136
 go_wp2;exact bodyPost_ret (v:= .agg #[.int .i64 x.id,.bool x.up]) (by simp [results,Tryz.results136,go_sem]) rfl ⟨rfl,by go_grown⟩
theorem EB:(Tryz.prog.info? 187).map (fun i=>(i.zero,i.size,decide (i.bytes≤1000)))=some (some (.agg #[.int .i64 0,.bool false]),2,true):=by kernel_rfl
theorem Fi (n:Nat) (hn:n≤1048576) (w:World):
  (Instr.makeSlice 43 (.int .i64 (n:Int)) (.int .i64 (n:Int))).run J3 w= .ok (.slice (some ⟨w.heap.size,0,none⟩) n n) (w.alloc (.cells (madeCells #[.int .i64 0,.bool false] (n * 2)) 187)):=by
 obtain ⟨i,hi,e⟩:=Kw.1 EB;simp only [Kx,decide_eq_true_eq] at e;obtain ⟨e1,e2,e3⟩:=e;have hby:n * i.bytes≤1048576 * 1000:=Nat.mul_le_mul hn e3
 have:=run_make (P:=J3) w 43 187 i _ Tryz.underlying43 hi e1 .i64 .i64 n n (by omega) (by omega) (by rw [Nat.mul_comm] at hby; first | omega | (rw [Nat.mul_comm]; omega)) (by omega)
 rw [this,e2];simp [Value.cells]
theorem Df (a:Option Addr) (l:List aB) (cap:Nat) (w:World) (hl:l.length≤1048576) (hc:bJ.ep w a l):
  Calls J3 86 #[.slice a l.length cap] w fun e w'=>e= .returned (.slice (some ⟨w.heap.size,0,none⟩) l.length l.length)∧w'.ownsRow w.heap.size 187 2 (.slice (some ⟨w.heap.size,0,none⟩) l.length l.length) l.length (bJ.flat l)∧Below w.heap.size w w':=by
 have hmk:=Fi l.length hl;have HC:Hid (bJ.ep w a l):=hc;have HF:Hid (gb bJ 187 w (w.alloc (.cells (madeCells #[.int .i64 0,.bool false] (l.length * 2)) 187)) l.length []):=gb.start (by rw [size_madeCells]; rfl);clear hc
 go_enter Tryz.func86,Tryz.ntmps86
 go_wp2_with fail
 go_loopw [4] (fun i wr=> ∃ k:Nat,k≤l.length∧i= .int .i64 k∧Hid (gb bJ 187 w wr l.length (l.take k))) (fun i _=>l.length - (intOf i).toNat)
 case atStart=>exact ⟨0,Ky _,rfl,HF.I⟩
 case round=>
  clear hmk HF;obtain ⟨k,hk,rfl,HR⟩:=hrel;by_cases hlt:k < l.length
  ·have i0:(0:Int)≤(k:Int):=by omega
   have i1:(k:Int) < (l.length:Int):=by omega
   obtain ⟨x,hx⟩: ∃ x,l[k]? =some x:=⟨_,Kz hlt⟩
   obtain ⟨b,off,rfl,hat⟩:=(HC.I.below HR.I.cd).at hx;have c0:wr.cell? ⟨b,off+k * 2,none⟩=some (.int .i64 x.id):=hat 0 _ rfl;have c1:wr.cell? ⟨b,off+k * 2+1,none⟩=some (.bool x.up):=hat 1 _ rfl;have HX:Hid (l[k]? =some x):=hx;have hfl:=HR.I.lt;clear hx hat;go_wp2_with fail;refine (E8 x wr).mono ?_;rintro e w1 ⟨rfl,hb1⟩;have pG:Hid (gb bJ 187 w w1 l.length (l.take k)):=HR.I.below hb1;obtain ⟨⟨u,hu⟩,hf⟩:=pG.I.at;have d0:=hu (k * 2) (by show k * 2 < l.length * 2; omega);have f0:=hf (k * 2);have d1:=hu (k * 2+1) (by show k * 2+1 < l.length * 2; omega);have f1:=hf (k * 2+1);have HS:Hid (gb bJ 187 w ((w1.setCell ⟨w.heap.size,k * 2,none⟩ (.int .i64 x.id)).setCell ⟨w.heap.size,k * 2+1,none⟩ (.bool x.up)) l.length (l.take (k+1))):=by
    have h5:=pG.I.more (by rw [Lk]; omega) x;rw [← cj HX.I,Lk,Nat.min_eq_left hk,show bJ.vals x= [.int .i64 x.id,.bool x.up] from rfl,show bJ.n=2 from rfl] at h5;simp only [bn] at h5;exact h5
   clear hu hf hb1 HR pG c0 c1;go_wp2;go_roundw
   case rel=>exact ⟨k+1,by omega,by go_num,HS.I⟩
   case measure=>simp [intOf]; omega
  ·have i1: ¬ (k:Int) < (l.length:Int):=by omega
   have ek:k=l.length:=by omega
   subst ek;go_wp2;go_ret;have h6:=HR.I.done (by rw [Lk]; omega) (by unfold maxLen; omega);rw [LQ] at h6;exact ⟨rfl,h6,HR.I.cd⟩
theorem E6 (x:aB) (w:World):Calls J3 112 #[.agg #[.int .i64 x.id,.bool x.up],.agg #[.int .i64 x.id,.bool x.up]] w fun e w'=>e= .returned (.bool true)∧Below w.heap.size w w':=by
 go_enter Tryz.func112,Tryz.ntmps112
 go_wp2;go_ret;exact ⟨al (by simp),by go_grown⟩
def vo (w:World) (a a':Option Addr) (l:List aB) (x:aB) (g g' k:Nat) (w':World):Prop:=((w'.cell? ⟨g,k * 2,none⟩=some (.int .i64 x.id)∧w'.cell? ⟨g,k * 2+1,none⟩=some (.bool x.up))∧(w'.cell? ⟨g',k * 2,none⟩=some (.int .i64 x.id)∧w'.cell? ⟨g',k * 2+1,none⟩=some (.bool x.up)))∧Hid (bJ.bU w' a l∧bJ.bU w' a' l∧Below w.heap.size w w')
theorem oW {w w':World} {a a':Option Addr} {l:List aB} {x:aB} {g g' k:Nat} (ha:a=some ⟨g,0,none⟩) (ha':a'=some ⟨g',0,none⟩) (hx:l[k]? =some x) (h:bJ.bU w' a l∧bJ.bU w' a' l∧Below w.heap.size w w'):vo w a a' l x g g' k w':=by
 obtain ⟨g1,e1,h1⟩:=h.1.at hx;obtain ⟨g2,e2,h2⟩:=h.2.1.at hx;rw [ha] at e1;rw [ha'] at e2;cases e1;cases e2;exact ⟨⟨⟨h1 0 _ rfl,h1 1 _ rfl⟩,⟨h2 0 _ rfl,h2 1 _ rfl⟩⟩,h⟩
theorem CI (a a':Option Addr) (l:List aB) (cap cap':Nat) (w:World) (hl:l.length≤1048576) (h:bJ.bU w a l) (h':bJ.bU w a' l):
  Calls J3 50 #[.slice a l.length cap,.slice a' l.length cap'] w fun e w'=>e= .returned (.bool true)∧Below w.heap.size w w':=by
 have HL:Hid (bJ.bU w a l∧bJ.bU w a' l):=⟨h,h'⟩
 clear h h'
 go_enter Tryz.func50,Tryz.ntmps50
 go_wp2_with fail
 go_loopw [5] (fun i wr=> ∃ k:Nat,k≤l.length∧i= .int .i64 k∧Hid (Below w.heap.size w wr)) (fun i _=>l.length - (intOf i).toNat)
 case atStart=>exact ⟨0,Ky _,rfl,Kp _ _⟩
 case round=>
  obtain ⟨k,hk,rfl,HB⟩:=hrel;by_cases hlt:k < l.length
  ·have i0:(0:Int)≤(k:Int):=by omega
   have i1:(k:Int) < (l.length:Int):=by omega
   obtain ⟨x,hx⟩: ∃ x,l[k]? =some x:=⟨_,Kz hlt⟩
   obtain ⟨g,ha,-⟩:=HL.I.1.at hx;obtain ⟨g',ha',-⟩:=HL.I.2.at hx;have HX:Hid (a=some ⟨g,0,none⟩∧a'=some ⟨g',0,none⟩∧l[k]? =some x):=⟨ha,ha',hx⟩
   have HS:Hid (vo w a a' l x g g' k wr):=oW ha ha' hx ⟨HL.I.1.below HB.I,HL.I.2.below HB.I,HB.I⟩;clear hx;rw [ha,ha'];clear ha ha';go_wp2_with fail;refine aT (vo w a a' l x g g' k) (by kernel_rfl) (oW HX.I.1 HX.I.2.1 HX.I.2.2 ⟨HS.I.2.I.1.below (Kp _ _).drew,HS.I.2.I.2.1.below (Kp _ _).drew,HS.I.2.I.2.2.drew⟩) ?_
   iterate 8 (refine PI ?_ (hy:=fun w0 hS0=>by obtain ⟨⟨⟨q0,q1⟩,⟨r0,r1⟩⟩,hH⟩:=hS0; go_simp; try with_reducible rfl))
   refine cl (.bool true) 112 #[.agg #[.int .i64 x.id,.bool x.up],.agg #[.int .i64 x.id,.bool x.up]] ?_ ?_ ?_
   ·intro w0 hS0
    obtain ⟨⟨⟨q0,q1⟩,⟨r0,r1⟩⟩,hH⟩:=hS0
    go_simp
    try with_reducible rfl
   ·intro w0 hS0
    refine (E6 x w0).mono ?_;rintro e w2 ⟨rfl,hb2⟩;exact ⟨rfl,oW HX.I.1 HX.I.2.1 HX.I.2.2 ⟨hS0.2.I.1.below hb2,hS0.2.I.2.1.below hb2,hS0.2.I.2.2.trans (hb2.mono hS0.2.I.2.2.size)⟩⟩
   simp only [pt,sb,s0,s1]
   (refine PI ?_ (hy:=fun w0 hS0=>by obtain ⟨⟨⟨q0,q1⟩,⟨r0,r1⟩⟩,hH⟩:=hS0; go_simp; try with_reducible rfl))
   refine bk (by kernel_rfl) ?_ _;intro w1 cm;have HZ:Hid (Below w.heap.size w w1):=cm.2.I.2.2;clear cm;go_wp2;go_roundw
   case rel=>exact ⟨k+1,by omega,by go_num,HZ.I⟩
   case measure=>simp [intOf]; omega
  ·have i1: ¬ (k:Int) < (l.length:Int):=by omega
   go_wp2;go_ret;exact ⟨rfl,HB.I⟩
end
section
open Go.RowKit
def blk (a:Option Addr):List Nat:=(a.map (·.block)).toList
theorem fZ {a:Option Addr} {g:Nat} :g∈blk a↔a.map (·.block)=some g:=by
 unfold blk;cases a <;> simp [eq_comm]
def af.Mc (p:af):List Nat:=blk p.aN ++ (p.L8.filterMap aR.bt ++ (blk p.bc ++ (blk p.ay ++ (blk p.ax ++ (blk p.am ++ (p.ae.filterMap aC.bt ++ (blk p.aK ++ (p.ai.filterMap aU.bt))))))))
structure ap (w:World) (base:Nat) (p:af):Prop where
 L8:w.ownsRow base 148 12 (.slice p.aN p.L8.length p.aW) p.L8.length (bg.flat p.L8)
 aj:w.ownsRow base 184 3 (.slice p.bc p.aj.length p.bF) p.aj.length (dm.flat p.aj)
 L9:w.ownsRow base 187 2 (.slice p.ay p.L9.length p.aO) p.L9.length (bJ.flat p.L9)
 ag:w.ownsRow base 190 3 (.slice p.ax p.ag.length p.aP) p.ag.length (bG.flat p.ag)
 ae:w.ownsRow base 160 3 (.slice p.am p.ae.length p.aG) p.ae.length (bm.flat p.ae)
 ai:w.ownsRow base 85 5 (.slice p.aK p.ai.length p.aV) p.ai.length (bX.flat p.ai)
 eI: ∀ x∈p.L8,aR.cO w base x
 eE: ∀ x∈p.ae,aC.cO w base x
 eR: ∀ x∈p.ai,aU.cO w base x
 nodup:p.Mc.Nodup
theorem aL {w w':World} {base n size cap:Nat} {e:TypeId} {a:Option Addr} {xs:List Value} (h:w.ownsRow base e size (.slice a n cap) n xs) (hs: ∀ g,g∈blk a→w'.heap[g]? =w.heap[g]?):w'.ownsRow base e size (.slice a n cap) n xs:=by
 obtain ⟨hl,h2⟩:=h;refine ⟨hl,?_⟩;rcases h2 with h2 | ⟨g,c,cur,hv,h1,hg,r⟩
 ·exact .inl h2
 ·simp only [LD] at hv
  exact .inr ⟨g,c,cur,by rw [hv.1,hv.2.2],h1,(hs g (by rw [fZ,hv.1]; rfl)).trans hg,r⟩
theorem cf {w:World} {base n size cap:Nat} {e:TypeId} {a:Option Addr} {xs:List Value} (h:w.ownsRow base e size (.slice a n cap) n xs) {g:Nat} (hg:g∈blk a):base≤g∧g < w.heap.size:=by
 rcases h.2 with ⟨hv,-⟩ | ⟨g',c,cur,hv,h1,hg',r⟩
 ·simp only [LD] at hv
  rw [hv.1] at hg;simp [blk] at hg
 ·simp only [LD] at hv
  rw [fZ,hv.1] at hg;simp only [Option.map_some,LF] at hg;subst hg;exact ⟨h1,(J2.1 hg').1⟩
theorem dP {α:Type} {N:gd α} {l:List α} {g:Nat} :g∈l.filterMap N.bt↔ ∃ x∈l,N.bt x=some g:=List.mem_filterMap
theorem ap.lt {w:World} {base:Nat} {p:af} (h:ap w base p): ∀ g∈p.Mc,base≤g∧g < w.heap.size:=fun g hg=>by
 simp only [af.Mc,Kg] at hg;rcases hg with hg | hg | hg | hg | hg | hg | hg | hg | hg
 ·exact cf h.L8 hg
 ·obtain ⟨x,hx,hk⟩:=dP.1 hg
  exact (h.eI x hx).lt hk
 ·exact cf h.aj hg
 ·exact cf h.L9 hg
 ·exact cf h.ag hg
 ·exact cf h.ae hg
 ·obtain ⟨x,hx,hk⟩:=dP.1 hg
  exact (h.eE x hx).lt hk
 ·exact cf h.ai hg
 ·obtain ⟨x,hx,hk⟩:=dP.1 hg
  exact (h.eR x hx).lt hk
theorem ap.same {w w':World} {base:Nat} {p:af} (h:ap w base p) (hs: ∀ g∈p.Mc,w'.heap[g]? =w.heap[g]?):ap w' base p:=by
 have hm: ∀ g,(g∈blk p.aN∨g∈p.L8.filterMap aR.bt∨g∈blk p.bc∨g∈blk p.ay∨g∈blk p.ax∨g∈blk p.am∨g∈p.ae.filterMap aC.bt∨g∈blk p.aK∨g∈p.ai.filterMap aU.bt)→g∈p.Mc:=fun g hg=>by
  simp only [af.Mc,Kg];exact hg
 exact ⟨aL h.L8 fun g hg=>hs g (hm g (.inl hg)),aL h.aj fun g hg=>hs g (hm g (.inr (.inr (.inl hg)))),aL h.L9 fun g hg=>hs g (hm g (.inr (.inr (.inr (.inl hg))))),aL h.ag fun g hg=>hs g (hm g (.inr (.inr (.inr (.inr (.inl hg)))))),aL h.ae fun g hg=>hs g (hm g (.inr (.inr (.inr (.inr (.inr (.inl hg))))))),aL h.ai fun g hg=>hs g (hm g (.inr (.inr (.inr (.inr (.inr (.inr (.inr (.inl hg))))))))),fun x hx=>(h.eI x hx).same fun g hk=>hs g (hm g (.inr (.inl ((dP.2 ⟨x,hx,hk⟩))))),fun x hx=>(h.eE x hx).same fun g hk=>hs g (hm g (.inr (.inr (.inr (.inr (.inr (.inr (.inl ((dP.2 ⟨x,hx,hk⟩)))))))))),fun x hx=>(h.eR x hx).same fun g hk=>hs g (hm g (.inr (.inr (.inr (.inr (.inr (.inr (.inr (.inr ((dP.2 ⟨x,hx,hk⟩))))))))))),h.nodup⟩
theorem ap.below {w w':World} {base:Nat} {p:af} (h:ap w base p) (hb:Below w.heap.size w w'):ap w' base p:=h.same fun g hg=>hb.block g (h.lt g hg).2
theorem ap.lower {w:World} {base base':Nat} {p:af} (h:ap w base p) (hb:base'≤base):ap w base' p:=
 ⟨cq h.L8 hb,cq h.aj hb,cq h.L9 hb,cq h.ag hb,cq h.ae hb,cq h.ai hb,fun x hx=>(h.eI x hx).low hb,fun x hx=>(h.eE x hx).low hb,fun x hx=>(h.eR x hx).low hb,h.nodup⟩
theorem ap.at {w:World} {base:Nat} {p:af} (h:ap w base p):af.At w p:=by
 refine ⟨⟨nP h.L8,fun x hx r hr=> ?_⟩,⟨nP h.aj,fun x hx r hr=> ?_⟩,⟨nP h.L9,fun x hx r hr=> ?_⟩,⟨nP h.ag,fun x hx r hr=> ?_⟩,⟨nP h.ae,fun x hx r hr=> ?_⟩,⟨nP h.ai,fun x hx r hr=> ?_⟩⟩
 ·simp only [bg,Kt,Ku,or_false] at hr
  subst hr;exact (h.eI x hx).row
 ·simp [dm] at hr
 ·simp [bJ] at hr
 ·simp [bG] at hr
 ·simp only [bm,Kt,Ku,or_false] at hr
  subst hr;exact (h.eE x hx).row
 ·simp only [bX,Kt,Ku,or_false] at hr
  subst hr;exact (h.eR x hx).row
structure aE.Small (p:aE):Prop where
 dl:p.L8.length≤1048576
 fx:p.aj.length≤1048576
 cD:p.L9.length≤1048576
 cC:p.ag.length≤1048576
 cb:p.ae.length≤1048576
 dH:p.ai.length≤1048576
 L8: ∀ x∈p.L8,(x.prog.length≤1048576∧(∀ o∈x.prog,o.2.2.2.size≤1048576)∧x.held.size≤1048576∧x.got.size≤1048576)∧(Lit.int .i64 x.id).wf=true∧(Lit.int .i64 x.on).wf=true∧(Lit.int .i64 x.RU).wf=true
 aj: ∀ x∈p.aj,(Lit.int .i64 x.id).wf=true
 L9: ∀ x∈p.L9,(Lit.int .i64 x.id).wf=true
 ag: ∀ x∈p.ag,(Lit.int .i64 x.id).wf=true∧x.text.size≤1048576
 ae: ∀ x∈p.ae,(Lit.int .i64 x.id).wf=true∧x.Ma.length≤1048576∧ ∀ s∈x.Ma,s.size≤1048576
 ai: ∀ x∈p.ai,(Lit.int .i64 x.id).wf=true∧x.Ma.length≤1048576∧ ∀ s∈x.Ma,s.size≤1048576
section
variable {p:af}
theorem gv (h:p.pure.Small):p.dX:=by
 have h1:=h.dl;have h2:=h.cb;have h3:=h.dH;simp only [af.pure,List.length_map] at h1 h2 h3;exact ⟨h1,h.fx,h.cD,h.cC,h2,h3⟩
theorem cY (h:p.pure.Small) {x:ao} (hx:x∈p.L8):x.dX∧x.Wf:=by
 have:=h.L8 x.toaD (Lr.2 ⟨x,hx,rfl⟩)
 exact ⟨⟨this.1.1,this.1.2.1,this.1.2.2.1,this.1.2.2.2⟩,⟨this.2.1,this.2.2.1,this.2.2.2⟩⟩
theorem nO (h:p.pure.Small) {x:au} (hx:x∈p.ae):(Lit.int .i64 x.id).wf=true∧x.Ma.length≤1048576∧ ∀ s∈x.Ma,s.size≤1048576:=h.ae x.toci (Lr.2 ⟨x,hx,rfl⟩)
theorem qf (h:p.pure.Small) {x:aM} (hx:x∈p.ai):(Lit.int .i64 x.id).wf=true∧x.Ma.length≤1048576∧ ∀ s∈x.Ma,s.size≤1048576:=h.ai x.todS (Lr.2 ⟨x,hx,rfl⟩)
theorem dV (h:p.pure.Small):p.Fit:=⟨gv h,fun b hb=>(h.ag b hb).2,fun _ hb=>(nO h hb).2,fun _ hb=>(qf h hb).2⟩
theorem uG (h:p.pure.Small) {w:World} {base:Nat} (ho:ap w base p):p.Good w:=
 ⟨ho.at,gv h,fun _ hx=>cY h hx,h.aj,h.L9,h.ag,fun _ hx=>nO h hx,fun _ hx=>qf h hx,fun x hx _ hk=>((ho.eI x hx).lt hk).2,fun x hx _ hk=>((ho.eE x hx).lt hk).2,fun x hx _ hk=>((ho.eR x hx).lt hk).2⟩
end
def fV (lo:Nat) (F:World→Prop) (W:World):Prop:= ∀ W',(∀ g,lo≤g→g < W.heap.size→W'.heap[g]? =W.heap[g]?)→W.heap.size≤W'.heap.size→F W'
theorem fV.here {lo:Nat} {F:World→Prop} {W:World} (h:fV lo F W):F W:=h W (fun _ _ _=>rfl) (Ki _)
theorem fV.step {lo:Nat} {F:World→Prop} {W W1:World} (h:fV lo F W) (hs: ∀ g,lo≤g→g < W.heap.size→W1.heap[g]? =W.heap[g]?) (hz:W.heap.size≤W1.heap.size):fV lo F W1:=fun W' h' hz'=>
 h W' (fun g h1 h2=>(h' g h1 (by omega)).trans (hs g h1 h2)) (by omega)
theorem dK {lo i:Nat} {F:World→Prop} {W w1:World} {v:Value} (h:fV (lo+1) F W) (hb:Below W.heap.size W w1):fV (lo+1) F (w1.setCell ⟨lo,i,none⟩ v):=
 h.step (fun g h1 h2=>(Below.heap_setCell w1 _ v g (by show ¬ g=lo; omega)).trans (hb.block g h2)) (by have:=hb.size; simp [World.setCell]; omega)
end
section
open Go.RowKit
attribute [local go_sem ↓] Kc Kd
theorem AX (a:Option Addr) (l:List ByteArray) (cap:Nat) (left:Int) (w:World) (hl:l.length≤maxLen) (hc:bT.ep w a l) (hs: ∀ x∈l,(x.size≤maxLen)) (h0:0≤left) (h1:left≤1048576):
  Calls J3 167 #[.slice a l.length cap,.int .i64 left] w fun e w'=>jZ w left (l.length) (l.length≤1048576∧ ∀ x∈l,(x.size≤1048576)) e w':=by
 have hl':=hl;unfold maxLen at hl';by_cases hn:left - (l.length:Int) < 0
 ·go_enter Tryz.func167,Tryz.ntmps167
  go_wp2;go_ret;exact cT (Kp _ _) h0
 have HC:Hid (bT.ep w a l∧ ∀ x∈l,(x.size≤maxLen)):=⟨hc,hs⟩
 clear hc hs hl
 go_enter Tryz.func167,Tryz.ntmps167
 go_wp2_with fail
 go_loopw [1,5] (fun q i wr=> ∃ (k:Nat) (r:Int),k≤l.length∧i= .int .i64 k∧q= .int .i64 r∧0≤r∧r≤left - (l.length:Int)∧Hid ((∀ x∈l.take k,(x.size≤1048576))∧Below w.heap.size w wr)) (fun _ i _=>l.length - (intOf i).toNat)
 case atStart=>exact ⟨0,left - (l.length:Int),Ky _,rfl,rfl,by omega,by omega,⟨by simp,Kp _ _⟩⟩
 case round=>
  obtain ⟨k,r,hk,rfl,rfl,r0,r1,HA⟩:=hrel;by_cases hlt:k < l.length
  ·have i0:(0:Int)≤(k:Int):=by omega
   have i1:(k:Int) < (l.length:Int):=by omega
   obtain ⟨x,hx⟩: ∃ x,l[k]? =some x:=⟨_,Kz hlt⟩
   have hmem:=List.mem_of_getElem? hx;obtain ⟨b,off,rfl,hat⟩:=(HC.I.1.below HA.I.2).at hx;have c0:wr.cell? ⟨b,off+k,none⟩=some (.string x):=by have:=hat 0 _ rfl; rw [show off+k * bT.n+0=off+k by show off+k * 1+0=off+k; omega] at this; exact this
   have HX:Hid (l[k]? =some x∧(x.size≤maxLen)):=⟨hx,HC.I.2 x hmem⟩
   clear hx hmem hat;have z0:x.size≤9223372036854775807:=HX.I.2;by_cases hneg:r - (x.size:Int) < 0
   ·go_wp2
    go_ret;exact cT HA.I.2 h0
   go_wp2;go_roundw
   case rel=>exact ⟨k+1,r - (x.size:Int),by omega,by go_num,rfl,by omega,by omega,⟨nE HX.I.1 HA.I.1 (by omega),HA.I.2⟩⟩
   case measure=>simp [intOf]; omega
  ·have i1: ¬ (k:Int) < (l.length:Int):=by omega
   go_wp2;go_ret;exact ⟨r,rfl,by omega,by omega,fun _=>⟨⟨by omega,po (by omega) HA.I.1⟩,by omega⟩,HA.I.2⟩
theorem Il:(Tryz.prog.info? 9).map (fun i=>(i.zero,i.size,decide (i.bytes≤1000)))=some (some (.string ⟨#[]⟩),1,true):=by kernel_rfl
theorem Iw (n:Nat) (hn:n≤1048576) (w:World):
  (Instr.makeSlice 83 (.int .i64 (n:Int)) (.int .i64 (n:Int))).run J3 w= .ok (.slice (some ⟨w.heap.size,0,none⟩) n n) (w.alloc (.cells (madeCells #[.string ⟨#[]⟩] (n * 1)) 9)):=by
 obtain ⟨i,hi,e⟩:=Kw.1 Il;simp only [Kx,decide_eq_true_eq] at e;obtain ⟨e1,e2,e3⟩:=e;have hby:n * i.bytes≤1048576 * 1000:=Nat.mul_le_mul hn e3
 have:=run_make (P:=J3) w 83 9 i _ Tryz.underlying83 hi e1 .i64 .i64 n n (by omega) (by omega) (by rw [Nat.mul_comm] at hby; first | omega | (rw [Nat.mul_comm]; omega)) (by omega)
 rw [this,e2];simp [Value.cells]
theorem zV (a:Option Addr) (l:List ByteArray) (cap:Nat) (w:World) (hl:l.length≤1048576) (hc:bT.ep w a l):
  Calls J3 169 #[.slice a l.length cap] w fun e w'=>e= .returned (.slice (some ⟨w.heap.size,0,none⟩) l.length l.length)∧w'.ownsRow w.heap.size 9 1 (.slice (some ⟨w.heap.size,0,none⟩) l.length l.length) l.length (bT.flat l)∧Below w.heap.size w w':=by
 have hmk:=Iw l.length hl;have HC:Hid (bT.ep w a l):=hc;have HF:Hid (gb bT 9 w (w.alloc (.cells (madeCells #[.string ⟨#[]⟩] (l.length * 1)) 9)) l.length []):=gb.start (by rw [size_madeCells]; rfl);clear hc
 go_enter Tryz.func169,Tryz.ntmps169
 go_wp2_with fail
 go_loopw [4] (fun i wr=> ∃ k:Nat,k≤l.length∧i= .int .i64 k∧Hid (gb bT 9 w wr l.length (l.take k))) (fun i _=>l.length - (intOf i).toNat)
 case atStart=>exact ⟨0,Ky _,rfl,(by have h5:=HF.I; rw [Nat.mul_one] at h5; exact h5)⟩
 case round=>
  clear hmk HF;obtain ⟨k,hk,rfl,HR⟩:=hrel;by_cases hlt:k < l.length
  ·have i0:(0:Int)≤(k:Int):=by omega
   have i1:(k:Int) < (l.length:Int):=by omega
   obtain ⟨x,hx⟩: ∃ x,l[k]? =some x:=⟨_,Kz hlt⟩
   obtain ⟨b,off,rfl,hat⟩:=(HC.I.below HR.I.cd).at hx;have c0:wr.cell? ⟨b,off+k,none⟩=some (.string x):=by have:=hat 0 _ rfl; rw [show off+k * bT.n+0=off+k by show off+k * 1+0=off+k; omega] at this; exact this
   have HX:Hid (l[k]? =some x):=hx;have hfl:=HR.I.lt;clear hx hat;obtain ⟨⟨u,hu⟩,hf⟩:=HR.I.at;have d0:=hu k (by show k < l.length * 1; omega);have f0:=hf k;have HS:Hid (gb bT 9 w (wr.setCell ⟨w.heap.size,k,none⟩ (.string x)) l.length (l.take (k+1))):=by
    have h5:=HR.I.more (by rw [Lk]; omega) x;rw [← cj HX.I,Lk,Nat.min_eq_left hk,show k * bT.n=k from Nat.mul_one k] at h5;exact h5
   clear hu hf;go_wp2;go_roundw
   case rel=>exact ⟨k+1,by omega,by go_num,HS.I⟩
   case measure=>simp [intOf]; omega
  ·have i1: ¬ (k:Int) < (l.length:Int):=by omega
   have ek:k=l.length:=by omega
   subst ek;go_wp2;go_ret;have h6:=HR.I.done (by rw [Lk]; omega) (by unfold maxLen; omega);rw [LQ] at h6;exact ⟨rfl,h6,HR.I.cd⟩
def FK (w:World) (a a':Option Addr) (l:List ByteArray) (x:ByteArray) (g g' k:Nat) (w':World):Prop:=((w'.cell? ⟨g,k,none⟩=some (.string x))∧(w'.cell? ⟨g',k,none⟩=some (.string x)))∧Hid (bT.bU w' a l∧bT.bU w' a' l∧Below w.heap.size w w')
theorem Eo {w w':World} {a a':Option Addr} {l:List ByteArray} {x:ByteArray} {g g' k:Nat} (ha:a=some ⟨g,0,none⟩) (ha':a'=some ⟨g',0,none⟩) (hx:l[k]? =some x) (h:bT.bU w' a l∧bT.bU w' a' l∧Below w.heap.size w w'):FK w a a' l x g g' k w':=by
 obtain ⟨g1,e1,h1⟩:=h.1.at hx;obtain ⟨g2,e2,h2⟩:=h.2.1.at hx;rw [ha] at e1;rw [ha'] at e2;cases e1;cases e2;have h3:=h1 0 _ rfl;have h4:=h2 0 _ rfl;rw [show k * bT.n+0=k by show k * 1+0=k; omega] at h3 h4;exact ⟨⟨h3,h4⟩,h⟩
theorem Be (a a':Option Addr) (l:List ByteArray) (cap cap':Nat) (w:World) (hl:l.length≤1048576) (h:bT.bU w a l) (h':bT.bU w a' l):
  Calls J3 156 #[.slice a l.length cap,.slice a' l.length cap'] w fun e w'=>e= .returned (.bool true)∧Below w.heap.size w w':=by
 have HL:Hid (bT.bU w a l∧bT.bU w a' l):=⟨h,h'⟩
 clear h h'
 go_enter Tryz.func156,Tryz.ntmps156
 go_wp2_with fail
 go_loopw [5] (fun i wr=> ∃ k:Nat,k≤l.length∧i= .int .i64 k∧Hid (Below w.heap.size w wr)) (fun i _=>l.length - (intOf i).toNat)
 case atStart=>exact ⟨0,Ky _,rfl,Kp _ _⟩
 case round=>
  obtain ⟨k,hk,rfl,HB⟩:=hrel;by_cases hlt:k < l.length
  ·have i0:(0:Int)≤(k:Int):=by omega
   have i1:(k:Int) < (l.length:Int):=by omega
   obtain ⟨x,hx⟩: ∃ x,l[k]? =some x:=⟨_,Kz hlt⟩
   obtain ⟨g,ha,-⟩:=HL.I.1.at hx;obtain ⟨g',ha',-⟩:=HL.I.2.at hx;have HX:Hid (a=some ⟨g,0,none⟩∧a'=some ⟨g',0,none⟩∧l[k]? =some x):=⟨ha,ha',hx⟩
   have HS:Hid (FK w a a' l x g g' k wr):=Eo ha ha' hx ⟨HL.I.1.below HB.I,HL.I.2.below HB.I,HB.I⟩;clear hx;rw [ha,ha'];clear ha ha';obtain ⟨⟨c0,d0⟩,-⟩:=HS.I;go_wp2_with fail
   go_quiet (fail)
   go_wp2;go_roundw
   case rel=>exact ⟨k+1,by omega,by go_num,yP HB.I _⟩
   case measure=>simp [intOf]; omega
  ·have i1: ¬ (k:Int) < (l.length:Int):=by omega
   go_wp2;go_ret;exact ⟨rfl,HB.I⟩
end
section
open Go.RowKit Go.Maps
attribute [local go_sem ↓] Kc Kd
structure gi where
 c:eQ
 s:Nat
 t:Nat
abbrev fz (l:gi):Array Value:= #[.int .i64 l.c.src,.int .i64 l.c.ga,.int .i64 l.c.dst,.int .i64 l.c.hI,.pointer (some ⟨l.s,0,none⟩),.pointer (some ⟨l.t,0,none⟩)]
theorem VI {a b:Nat} {w:World} {x y:aM} (hx:w.heap[a]? =some (.cells (cW x) 85 (0,0))) (hy:w.heap[b]? =some (.cells (cW y) 85 (0,0))):Sem.run J3 (binOp BinOp.eql 203 (.pointer (some ⟨a,0,none⟩)) (.pointer (some ⟨b,0,none⟩))) w= .ok (.bool (decide (a=b))) w:=by
 simp only [binOp,go_sem];unfold Op.equal Op.maxDepth;unfold Op.equalIn;simp [go_sem];by_cases h:a=b
 ·subst h
  rw [run_sameAddr_same];simp
 ·rw [run_sameAddr_other w (a:=⟨a,0,none⟩) (b:=⟨b,0,none⟩) (by simp) hx hy]
  simp [h]
theorem TK (l m:gi) (x y u v:aM) (w:World) (hx:w.heap[l.s]? =some (.cells (cW x) 85 (0,0))) (hy:w.heap[m.s]? =some (.cells (cW y) 85 (0,0))) (hu:w.heap[l.t]? =some (.cells (cW u) 85 (0,0))) (hv:w.heap[m.t]? =some (.cells (cW v) 85 (0,0))):
  Calls J3 187 #[.agg (fz l),.agg (fz m)] w fun e w'=>e= .returned (.bool (decide (l.t=m.t) || decide (l.s=m.s) && x.Mf))∧Below w.heap.size w w':=by
 have hb:Below w.heap.size w ((w.alloc (.cells (fz l) 205)).alloc (.cells (fz m) 205)):=((Kp _ w).alloc (Ki _) _).alloc (by simp) _;have up: ∀ {g:Nat} {z:aM},w.heap[g]? =some (.cells (cW z) 85 (0,0))→((w.alloc (.cells (fz l) 205)).alloc (.cells (fz m) 205)).heap[g]? =some (.cells (cW z) 85 (0,0)):=fun h=>(hb.block _ (J2.1 h).1).trans h
 have q2:=(gg (up hx)).2;have e1:=VI (up hu) (up hv);have e2:=VI (up hx) (up hy);have HB:=aA hb;clear hx hy hu hv up hb;cases h1:decide (l.t=m.t)
 ·rw [h1] at e1
  cases h2:decide (l.s=m.s)
  ·rw [h2] at e2
   go_enter Tryz.func187,Tryz.ntmps187
   go_wp2;go_ret;exact ⟨rfl,HB.I⟩
  ·rw [h2] at e2
   go_enter Tryz.func187,Tryz.ntmps187
   go_wp2;go_ret;exact ⟨al (by simp),HB.I⟩
 ·rw [h1] at e1
  go_enter Tryz.func187,Tryz.ntmps187
  go_wp2;go_ret;exact ⟨al (by simp),HB.I⟩
end
end Go.Proofs.YteidkehoekbcaaaGreat
