/- What the proof leans on, part 21. -/
import Derived.Test.YteidkehoekbcaaaGreatOwnK18
set_option maxRecDepth 100000
set_option maxHeartbeats 8000000
open Array renaming getElem?_eq_some_iff->J2
open Bool renaming and_eq_true->J7
open Go renaming wp_at_succ->Kd,wp_at_zero->Kc
open Go.Proofs.Tryz renaming prog->J3
open Go.RowKit.Below renaming refl->Kp
open Go.World renaming cell?_of_block->J1
open List renaming getElem?_eq_getElem->Kz,mem_append->Kg,mem_cons_of_mem->LB,mem_map->Lr,mem_of_getElem?->KA,mem_singleton->KB,take_of_length_le->KF
open Nat renaming le_refl->Ki,zero_le->Ky

namespace Go.Proofs.YteidkehoekbcaaaGreat
open Go.RowKit Go.Maps
attribute [local go_sem ↓] Kc Kd
theorem Shelf.frm {α:Type} {vs:α→Array Value} {num:α→Int} {T:TypeId} {w w':World} {base b:Nat} {l:List (α × Nat)} (h:Shelf vs num T w base b l) (hs: ∀ g,base≤g→g < w.heap.size→w'.heap[g]? =w.heap[g]?):Shelf vs num T w' base b l:=h.same fun g hg=>hs g (h.low g hg) (h.lt g hg)
theorem cJ.same {w w':World} {base o:Nat} {S:aZ} (h:cJ w base o S) (hs: ∀ g,base≤g→g < w.heap.size→w'.heap[g]? =w.heap[g]?):cJ w' base o S:=
 ⟨(hs o h.low (J2.1 h.opn).1).trans h.opn,h.L8.frm hs,h.aj.frm hs,h.L9.frm hs,h.ag.frm hs,h.ae.frm hs,h.ai.frm hs,fun p hp=>(h.eI p hp).same fun g hg=>hs g ((h.eI p hp).lt hg).1 ((h.eI p hp).lt hg).2,fun p hp=>(h.eE p hp).same fun g hg=>hs g ((h.eE p hp).lt hg).1 ((h.eE p hp).lt hg).2,fun p hp=>(h.eR p hp).same fun g hg=>hs g ((h.eR p hp).lt hg).1 ((h.eR p hp).lt hg).2,h.nodup,h.low⟩
structure B2 (w0 w:World) (K b:Nat) (l:List (aZ × Nat)) (W:World):Prop where
 low:Below w0.heap.size w0 W
 TN:W.heap[K]? =w.heap[K]?
 map:cF W b (l.map fun p=>(p.1.q.id,p.2))
 part: ∀ p∈l,∃ base,b < base∧K < base∧cJ W base p.2 p.1
 nodup:(l.flatMap fun p=>p.1.lq.map (·.2)).Nodup
theorem B2.below {w0 w W W2:World} {K b:Nat} {l:List (aZ × Nat)} (h:B2 w0 w K b l W) (hK:K < W.heap.size) (hb:Below W.heap.size W W2):B2 w0 w K b l W2:=
 ⟨h.low.trans (hb.mono h.low.size),(hb.block K hK).trans h.TN,h.map.below hb,fun p hp=>(h.part p hp).imp fun _ hp=>⟨hp.1,hp.2.1,hp.2.2.same fun g _ hg=>hb.block g hg⟩,h.nodup⟩
theorem kf {w w':World} {b g:Nat} (h:w.mapTurned w' b) (hg:g≠b):w'.heap[g]? =w.heap[g]? :=by
 obtain ⟨es,c,es',c',-,rfl⟩:=h;simp [ChangeMaps.setBlock,Ne.symm hg]
theorem T5 {w w':World} {b:Nat} (h:w.mapTurned w' b):w'.heap.size=w.heap.size:=by
 obtain ⟨es,c,es',c',-,rfl⟩:=h;simp [ChangeMaps.setBlock]
theorem TG {w0 w w':World} {b:Nat} (h:w.mapTurned w' b) (hb:w0.heap.size≤b) (hl:Below w0.heap.size w0 w):Below w0.heap.size w0 w':=by
 have h2:=fun g (hg:g≠b)=>kf (g:=g) h hg
 obtain ⟨es,c,es',c',-,rfl⟩:=h;exact ⟨hl.os,hl.tape,hl.output,by simpa [ChangeMaps.setBlock] using hl.size,fun g hg=>(h2 g (by omega)).trans (hl.block g hg)⟩
theorem B2.more {w0 w W1 W2:World} {K b base o:Nat} {l:List (aZ × Nat)} {S:aZ} (h:B2 w0 w K b l W1) (hb0:w0.heap.size≤b) (hKb:K≠b) (ho:cJ W1 base o S) (hbase:b < base) (hKbase:K < base) (hfresh: ∀ p∈l,∀ g∈p.1.lq.map (·.2),g < base) (hlast: ∀ p∈l,p.1.q.id < S.q.id)
  (hm:cF W2 b (oK (S.q.id,o) (l.map fun p=>(p.1.q.id,p.2)))) (ht:W1.mapTurned W2 b):B2 w0 w K b (l ++ [(S,o)]) W2:=by
 refine ⟨TG ht hb0 h.low,(kf ht hKb).trans h.TN,?_,fun p hp=> ?_,?_⟩
 ·rw [Uz (fun q hq=>by obtain ⟨p,hp,rfl⟩:=Lr.1 hq; exact hlast p hp)] at hm
  simpa using hm
 ·rcases Kg.1 hp with hp | hp
  ·obtain ⟨bs,h1,h3,h2⟩:=h.part p hp
   exact ⟨bs,h1,h3,h2.same fun g hg _=>kf ht (by omega)⟩
  ·rw [KB.1 hp]
   exact ⟨base,hbase,hKbase,ho.same fun g hg _=>kf ht (by omega)⟩
 ·rw [List.flatMap_append,List.nodup_append]
  refine ⟨h.nodup,by simpa using (List.nodup_cons.1 ho.ai.nodup).2,fun g hg g' hg' e=> ?_⟩;obtain ⟨p,hp,hg⟩:=List.mem_flatMap.1 hg;have h1:=hfresh p hp g hg;have h2:=ho.ai.low g' (LB _ (by simpa using hg'));omega
theorem kwf_in {z:Int} (h:cv z 1 1000=true):(Lit.int .i64 z).wf=true:=by
 have h2:=bz.1 h;have e1:IntKind.min .i64≤0:=by decide
 have e2:100000≤IntKind.max .i64:=by decide
 simp only [Lit.wf,J7,decide_eq_true_eq];omega
theorem D2 {α:Type} {num:α→Int} {ok:α→Bool} : ∀ {l:List α} {last:Int},aw num ok last l=true→(∀ x∈l,last < num x)∧l.Pairwise (fun x y=>num x < num y)
 | [],_,_=>⟨(fun x hx=>by cases hx),List.Pairwise.nil⟩
 | x :: r,last,h=>by
  simp only [aw,J7,decide_eq_true_eq] at h;obtain ⟨h1,h2⟩:=D2 h.2;refine ⟨fun y hy=> ?_,List.Pairwise.cons (fun y hy=>h1 y hy) h2⟩;rcases List.mem_cons.1 hy with rfl | hy
  ·exact h.1.1.2
  ·have:=h1 y hy; have:=h.1.1.2; omega
def Vk (w0 w:World) (K b:Nat) (ps:List af) (e:Ending) (W:World):Prop:=Below w0.heap.size w0 W∧((aw (·.id) bK 0 (ps.map (·.pure))=false∧e= .returned (.bool false))∨(aw (·.id) bK 0 (ps.map (·.pure))=true∧e= .returned (.bool true)∧ ∃ l,l.map (·.1.pure)=ps.map (·.pure)∧B2 w0 w K b l W))
theorem Tr (w0 w:World) (K b:Nat) (a:Option Addr) (ps:List af) (cap:Nat) (hw:Below w0.heap.size w0 w) (hb0:w0.heap.size≤b) (hK:K < w.heap.size) (hKb:K≠b) (hc:w.cell? ⟨K,63,none⟩=some (.map (some b))) (hm:cF w b []) (hl:ps.length≤1048576) (hk:kp.bU w0 a ps) (hg: ∀ p∈ps,p.Good w0):
  Calls J3 100 #[.pointer (some ⟨K,0,none⟩),.slice a ps.length cap] w fun e w'=>Vk w0 w K b ps e w':=by
 have S:Hid (B2 w0 w K b [] w):=⟨hw,rfl,hm,(by simp),(by simp)⟩
 have HC:=aA (And.intro hc (And.intro hK (And.intro hKb hb0)));have HG:=aA (And.intro hk hg);clear hw hm hc hk hg hK hKb hb0
 go_enter Tryz.func100,Tryz.ntmps100
 go_wp2_with fail
 go_loopw [5,12] (fun q i wr=> ∃ (n:Nat) (l:List (aZ × Nat)),n≤ps.length∧i= .int .i64 n∧q= .int .i64 (bW (fun x:aE=>x.id) 0 ((ps.map (·.pure)).take n))∧Hid (B2 w0 w K b l wr∧w.heap.size≤wr.heap.size∧l.map (·.1.pure)=(ps.map (·.pure)).take n∧aw (·.id) bK 0 ((ps.map (·.pure)).take n)=true)) (fun _ i _=>ps.length - (Go.RowKit.intOf i).toNat)
 case atStart=>exact ⟨0,[],Ky _,rfl,rfl,S.I,Ki _,rfl,rfl⟩
 case round=>
  clear S;obtain ⟨n,l,hn,rfl,rfl,S⟩:=hrel;by_cases hlt:n < ps.length
  ·have i0:(0:Int)≤(n:Int):=by omega
   have i1:(n:Int) < (ps.length:Int):=by omega
   obtain ⟨p,hp⟩: ∃ p,ps[n]? =some p:=⟨_,Kz hlt⟩
   have HP:Hid ((ps.map (·.pure))[n]? =some p.pure):=by show (ps.map (·.pure))[n]? =_; rw [List.getElem?_map,hp]; rfl
   have hmem:=KA hp;obtain ⟨gs,rfl,⟨c0,c1,c2,c3,c4,c5,c6,c7⟩,-⟩:=ic (HG.I.1.below S.I.1.low) hp;go_upto_region 5 with fail;have hz:Below wr.heap.size wr (wr.alloc (.cells p.row 48)):=(Kp _ _).alloc (Ki _) _;have HSZ:=aA S.I.2.1;have HL:=aA S.I.2.2;replace S:=aA (S.I.1.below (by have:=HC.I.2.1; have:=HSZ.I; omega) hz);have Uc:Hid ((wr.alloc (.cells p.row 48)).heap[wr.heap.size]? =some (.cells p.row 48 (0,0))∧w.heap.size≤(wr.alloc (.cells p.row 48)).heap.size):=⟨heap_alloc_new _ _,by have:=hz.size; have:=HSZ.I; omega⟩
   have Mb:=iO p (wr.alloc (.cells p.row 48)) ((HG.I.2 p hmem).below S.I.low);unfold af.cells at Mb;clear c0 c1 c2 c3 c4 c5 c6 c7 hz HSZ hmem hp;generalize wr.alloc (.cells p.row 48)=W at *;have c0:W.cell? ⟨wr.heap.size,0,none⟩=some (.int .i64 p.id):=by simp [World.cell?,Uc.I.1]
   have c1:W.cell? ⟨wr.heap.size,1,none⟩=some (.int .i64 p.next):=by simp [World.cell?,Uc.I.1]
   have c2:W.cell? ⟨wr.heap.size,2,none⟩=some (.slice p.aN p.L8.length p.aW):=by simp [World.cell?,Uc.I.1]
   have c3:W.cell? ⟨wr.heap.size,3,none⟩=some (.slice p.bc p.aj.length p.bF):=by simp [World.cell?,Uc.I.1]
   have c4:W.cell? ⟨wr.heap.size,4,none⟩=some (.slice p.ay p.L9.length p.aO):=by simp [World.cell?,Uc.I.1]
   have c5:W.cell? ⟨wr.heap.size,5,none⟩=some (.slice p.ax p.ag.length p.aP):=by simp [World.cell?,Uc.I.1]
   have c6:W.cell? ⟨wr.heap.size,6,none⟩=some (.slice p.am p.ae.length p.aG):=by simp [World.cell?,Uc.I.1]
   have c7:W.cell? ⟨wr.heap.size,7,none⟩=some (.slice p.aK p.ai.length p.aV):=by simp [World.cell?,Uc.I.1]
   go_wp2_with fail;clear c0 c1 c2 c3 c4 c5 c6 c7;refine Mb.mono ?_;clear Mb;rintro e W1 ⟨hb1,⟨hr,rfl⟩ | ⟨hr,o,T,rfl,ho,hp⟩⟩
   ·have HN:Hid (aw (·.id) bK 0 (ps.map (·.pure))=false):=bS HP.I fun hh=>hr ((ch _).1 hh.2.2)
    have HE:=aA (S.I.low.trans (hb1.mono S.I.low.size));clear hb1 hr;go_wp2;go_ret;exact ⟨HE.I,.inl ⟨HN.I,rfl⟩⟩
   have HF:Hid (∀ q∈l,∀ g∈q.1.lq.map (·.2),g < W.heap.size):=fun q hq g hg=>by
    obtain ⟨bs,-,-,h2⟩:=S.I.part q hq;exact h2.ai.lt g (LB _ hg)
   have hmb:b < W.heap.size:=S.I.map.lt;replace S:=aA (S.I.below (by have:=HC.I.2.1; have:=Uc.I.2; omega) hb1);have hid:T.q.id=p.id:=congrArg aE.id hp;have d0:W1.cell? ⟨o,0,none⟩=some (.int .i64 p.id):=by have h:=ho.opn.cell 0; rw [h]; show some (Value.int IntKind.i64 T.q.id)=_; rw [hid]
   have HO:Hid (cJ W1 W.heap.size o T∧T.pure=p.pure∧b < W.heap.size∧w.heap.size≤W1.heap.size∧aQ p.pure):=⟨ho,hp,hmb,by have:=hb1.size; have:=Uc.I.2; omega,hr⟩
   have HKW:Hid (K < W.heap.size):=by show K < _; have:=HC.I.2.1; have:=Uc.I.2; omega
   have HID:=aA hid;clear ho hp hmb hb1 hid hr Uc;by_cases hle:p.id≤bW (fun x:aE=>x.id) 0 ((ps.map (·.pure)).take n)
   ·have HN:Hid (aw (·.id) bK 0 (ps.map (·.pure))=false):=bS HP.I fun hh=>by have h2:=hh.2.1; have h3:bW (fun x:aE=>x.id) 0 ((ps.map (·.pure)).take n) < p.id:=h2; omega
    go_wp2;go_ret;exact ⟨S.I.low,.inl ⟨HN.I,rfl⟩⟩
   have HI:Hid (cv p.pure.id 1 1000=true):=by have h1:=HO.I.2.2.2.2.id; rw [bz] at h1; exact eB (by omega) (by omega)
   have HWF:Hid ((Lit.int .i64 p.id).wf=true):=kwf_in HI.I;have HT:Hid (aw (·.id) bK 0 ((ps.map (·.pure)).take (n+1))=true):=ed HL.I.2 HP.I HI.I (by show _ < p.id; omega) ((ch _).2 HO.I.2.2.2.2);have j6:Hid (∀ q∈l,q.1.q.id < p.id):=fun q hq=>by
    have h1:=(D2 HT.I).2;rw [cj HP.I,List.pairwise_append] at h1;exact h1.2.2 q.1.pure (by rw [← HL.I.1]; exact Lr.2 ⟨q,hq,rfl⟩) p.pure (by simp)
   obtain ⟨W2,hrun,hm2,ht2⟩:=(S.I.map.below (Kp _ _).drew).put Tryz.underlying104 HWF.I o (by
    rw [Tf]
    have:l.find? (fun q=>q.1.q.id == p.id)=none:=List.find?_eq_none.2 fun q hq=>by have:=j6.I q hq; simp; omega
    rw [this];rfl) (by have h5:=congrArg List.length HL.I.1; simp at h5 ⊢; omega)
   have HW:Hid (cF W2 b (oK (p.id,o) (l.map fun p=>(p.1.q.id,p.2)))∧W1.drew.mapTurned W2 b):=⟨hm2,ht2⟩
   have hob:o≠b:=by have h1:=HO.I.1.low; have h2:=HO.I.2.2.1; omega
   have d1:W2.cell? ⟨o,0,none⟩=some (.int .i64 p.id):=(J1 (w:=W1.drew) (a:=⟨o,0,none⟩) (kf ht2 hob)).trans d0;have HD:=aA d1;clear hm2 ht2 hob d1;have VH:=aA d0;have hleB:decide (p.id≤bW (fun x:aE=>x.id) 0 ((ps.map (·.pure)).take n))=false:=decide_eq_false hle;clear hle;go_upto_region 8 with fail;clear d0 hleB;replace S:=aA (S.I.below (by have:=HC.I.2.1; have:=HO.I.2.2.2.1; omega) (Kp _ _).drew);refine wp_region_held_drew (S:=fun W=>W.heap[K]? =w.heap[K]? ∧W.cell? ⟨o,0,none⟩=some (.int .i64 p.id)) (by kernel_rfl) ⟨S.I.TN,VH.I⟩ (fun _=> ?_);have mH:Hid (W1.drew.heap[K]? =w.heap[K]? ∧W1.drew.cell? ⟨o,0,none⟩=some (.int .i64 p.id)):=⟨S.I.TN,VH.I⟩
   have HCK:Hid (∀ W:World,W.heap[K]? =w.heap[K]? →W.cell? ⟨K,63,none⟩=some (.map (some b))):=fun W h=>(J1 (w:=w) (a:=⟨K,63,none⟩) h).trans HC.I.1
   refine tt 0 mH.I ?_;refine tt 1 mH.I ?_;refine tt 2 mH.I ?_;refine tt 3 mH.I ?_ (hy:=fun w0 hS0=>by have e1:=HCK.I w0 hS0.1; go_simp; try with_reducible rfl);refine tt 4 mH.I ?_;refine tt 5 mH.I ?_;refine tt 6 mH.I ?_;refine tt 7 mH.I ?_ (hy:=fun w0 hS0=>by have e1:=hS0.2; go_simp; try with_reducible rfl);refine tt 8 mH.I ?_;refine L7 9 (fun Q hQ=> ?_);have VG:=hrun;unfold dt at VG;clear hrun;go_wp2_with fail;have zz:Hid (W2.heap[K]? =w.heap[K]? ∧W2.cell? ⟨o,0,none⟩=some (.int .i64 p.id)):=⟨(kf HW.I.2 HC.I.2.2.1).trans S.I.TN,HD.I⟩
   refine hQ.out _ _ zz.I (fun _=> ?_);clear hQ Q VG;refine wpAnyH_done (by kernel_rfl) ?_ _;have d0:=HD.I;go_wp2;go_roundw
   case rel=>
    refine ⟨n+1,l ++ [(T,o)],by omega,by go_num,by rw [eG HP.I]; rfl,?_,?_,?_,HT.I⟩
    ·exact S.I.more HC.I.2.2.2 HC.I.2.2.1 (HO.I.1.same fun g _ _=>rfl) HO.I.2.2.1 HKW.I HF.I (fun q hq=>by rw [HID.I]; exact j6.I q hq) (by rw [HID.I]; exact HW.I.1) HW.I.2
    ·rw [T5 HW.I.2]; exact HO.I.2.2.2.1
    ·rw [cj HP.I,List.map_append,HL.I.1]; simp [HO.I.2.1]
   case measure=>simp [Go.RowKit.intOf]; omega
  ·have i1: ¬ (n:Int) < (ps.length:Int):=by omega
   go_wp2;go_ret;have h:=S.I.2.2;rw [KF (by simp; omega)] at h;exact ⟨S.I.1.low,.inr ⟨h.2,rfl,l,h.1,S.I.1⟩⟩
end Go.Proofs.YteidkehoekbcaaaGreat

namespace Go.Proofs.YteidkehoekbcaaaGreat
open Go.RowKit Go.Maps
attribute [local go_sem ↓] Kc Kd
def tA (l:gi):List Value:=(fz l).toList
def qo:Kind gi:=⟨6,tA,fun _=> [],by decide,fun _=>rfl⟩
def M2 {α:Type} (p:α→Bool):List α→Int
 | [] => -1
 | x :: r=>if p x then 0 else if M2 p r < 0 then -1 else M2 p r+1
theorem Uv {α:Type} (p:α→Bool): ∀ l:List α,decide (0≤M2 p l)=l.any p
 | [] =>by simp [M2]
 | x :: r=>by
  have h:=Uv p r;simp only [M2,List.any_cons];by_cases hp:p x=true
  ·simp [hp]
  ·rw [← h]
   by_cases h0:M2 p r < 0
   ·simp [h0,hp]
   ·simp [h0,hp]; omega
theorem Vj {α:Type} {p:α→Bool} : ∀ {l:List α},(∀ x∈l,p x=false)→M2 p l= -1
 | [],_=>rfl
 | x :: r,h=>by simp [M2,h x (by simp),Vj (l:=r) (fun y hy=>h y (by simp [hy]))]
theorem Us {α:Type} {p:α→Bool} : ∀ {l:List α} {k:Nat} {x:α},l[k]? =some x→p x=true→(∀ y∈l.take k,p y=false)→M2 p l=k
 | [],k,x,h,_,_=>by simp at h
 | y :: r,0,x,h,hp,_=>by simp at h; subst h; simp [M2,hp]
 | y :: r,k+1,x,h,hp,hn=>by
  have h1:=Us (l:=r) (k:=k) (x:=x) (by simpa using h) hp (fun z hz=>hn z (by simp [hz]));have h2:=hn y (by simp);simp [M2,h2,h1];omega
def rl (w:World) (l:gi):Prop:= ∃ x y:aM,w.heap[l.s]? =some (.cells (cW x) 85 (0,0))∧w.heap[l.t]? =some (.cells (cW y) 85 (0,0))
theorem rl.below {w w':World} {l:gi} (h:rl w l) (hb:Below w.heap.size w w'):rl w' l:=by
 obtain ⟨x,y,h1,h2⟩:=h;exact ⟨x,y,(hb.block _ (J2.1 h1).1).trans h1,(hb.block _ (J2.1 h2).1).trans h2⟩
def ts (m:gi) (q:Bool) (o:gi):Bool:=decide (m.t=o.t) || decide (m.s=o.s) && q
theorem Vq {w:World} {a:Option Addr} {l:List gi} (h:Row w a (qo.flat l)) {i:Nat} {x:gi} (hx:l[i]? =some x): ∃ g,a=some ⟨g,0,none⟩∧w.cell? ⟨g,i * 6,none⟩=some (.int .i64 x.c.src)∧w.cell? ⟨g,i * 6+1,none⟩=some (.int .i64 x.c.ga)∧w.cell? ⟨g,i * 6+2,none⟩=some (.int .i64 x.c.dst)∧w.cell? ⟨g,i * 6+3,none⟩=some (.int .i64 x.c.hI)∧w.cell? ⟨g,i * 6+4,none⟩=some (.pointer (some ⟨x.s,0,none⟩))∧w.cell? ⟨g,i * 6+5,none⟩=some (.pointer (some ⟨x.t,0,none⟩)):=by
 obtain ⟨g,e,hc⟩:=Kind.bU.at (K:=qo) ⟨h,fun x _ r hr=>by simp [qo] at hr⟩ hx;exact ⟨g,e,hc 0 _ rfl,hc 1 _ rfl,hc 2 _ rfl,hc 3 _ rfl,hc 4 _ rfl,hc 5 _ rfl⟩
theorem T2 (a:Option Addr) (ls:List gi) (cap:Nat) (m:gi) (z:aM) (w:World) (hl:ls.length≤1048576) (hr:Row w a (qo.flat ls)) (hz:w.heap[m.s]? =some (.cells (cW z) 85 (0,0))) (hm:rl w m) (hb: ∀ l∈ls,rl w l):
  Calls J3 217 #[.slice a ls.length cap,.func (.func 187) #[.agg (fz m)] #[]] w fun e w'=>e= .returned (.int .i64 (M2 (ts m z.Mf) ls))∧Below w.heap.size w w':=by
 have H:Hid (Row w a (qo.flat ls)∧w.heap[m.s]? =some (.cells (cW z) 85 (0,0))∧rl w m∧ ∀ l∈ls,rl w l):=⟨hr,hz,hm,hb⟩
 clear hr hz hm hb
 go_enter Tryz.func217,Tryz.ntmps217
 go_wp2_with fail
 go_loopw [8] (fun i wr=> ∃ k:Nat,k≤ls.length∧i= .int .i64 k∧Hid ((∀ y∈ls.take k,ts m z.Mf y=false)∧Below w.heap.size w wr)) (fun i _=>ls.length - (Go.RowKit.intOf i).toNat)
 case atStart=>exact ⟨0,Ky _,rfl,(fun y hy=>by simp at hy),Kp _ _⟩
 case round=>
  obtain ⟨k,hk,rfl,S⟩:=hrel;by_cases hlt:k < ls.length
  ·have i0:(0:Int)≤(k:Int):=by omega
   have i1:(k:Int) < (ls.length:Int):=by omega
   obtain ⟨p,hp⟩: ∃ p,ls[k]? =some p:=⟨_,Kz hlt⟩
   obtain ⟨g,rfl,c0,c1,c2,c3,c4,c5⟩:=Vq (H.I.1.below S.I.2) hp;obtain ⟨x,y,hx,hy⟩:=(H.I.2.2.1.below S.I.2)
   obtain ⟨u,v,hu,hv⟩:=((H.I.2.2.2 p (KA hp)).below S.I.2)
   have hzz:=(S.I.2.block _ (J2.1 H.I.2.1).1).trans H.I.2.1;have Mb:=TK m p z u y v wr hzz hu hy hv;have HP:=aA hp;clear hp hx hy hu hv hzz;go_wp2_with fail;clear c0 c1 c2 c3 c4 c5;refine Mb.mono ?_;clear Mb;rintro e W1 ⟨rfl,hb1⟩;replace S:=aA (And.intro S.I.1 (S.I.2.trans (hb1.mono S.I.2.size)));clear hb1;have HM:Hid (ts m z.Mf p=(decide (m.t=p.t) || decide (m.s=p.s) && z.Mf)):=rfl;generalize (decide (m.t=p.t) || decide (m.s=p.s) && z.Mf)=r at *;cases r
   ·go_wp2
    go_roundw
    case rel=>
     refine ⟨k+1,by omega,by go_num,fun y hy=> ?_,S.I.2⟩;rw [cj HP.I] at hy;rcases Kg.1 hy with hy | hy
     ·exact S.I.1 y hy
     ·rw [KB.1 hy]; exact HM.I
    case measure=>simp [Go.RowKit.intOf]; omega
   ·go_wp2
    go_ret;exact ⟨by rw [Us HP.I HM.I S.I.1]; rfl,S.I.2⟩
  ·have i1: ¬ (k:Int) < (ls.length:Int):=by omega
   go_wp2;go_ret;have h:=S.I.1;rw [KF (by omega)] at h;exact ⟨by rw [Vj h]; rfl,S.I.2⟩
theorem UQ (a:Option Addr) (ls:List gi) (cap:Nat) (m:gi) (z:aM) (w:World) (hl:ls.length≤1048576) (hr:Row w a (qo.flat ls)) (hz:w.heap[m.s]? =some (.cells (cW z) 85 (0,0))) (hm:rl w m) (hb: ∀ l∈ls,rl w l):
  Calls J3 186 #[.slice a ls.length cap,.func (.func 187) #[.agg (fz m)] #[]] w fun e w'=>e= .returned (.bool (ls.any (ts m z.Mf)))∧Below w.heap.size w w':=by
 have Mb:=T2 a ls cap m z w hl hr hz hm hb;have HA:=aA (Uv (ts m z.Mf) ls);clear hr hz hm hb hl;generalize M2 (ts m z.Mf) ls=i at *;generalize ls.any (ts m z.Mf)=r at *
 go_enter Tryz.func186,Tryz.ntmps186
 go_wp2_with fail;refine Mb.mono ?_;clear Mb;rintro e W1 ⟨rfl,hb1⟩;go_wp2;go_ret;exact ⟨al HA.I,hb1⟩
end Go.Proofs.YteidkehoekbcaaaGreat
