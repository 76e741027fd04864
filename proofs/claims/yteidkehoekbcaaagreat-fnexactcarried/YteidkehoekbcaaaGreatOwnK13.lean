/- What the proof leans on, part 13. -/
import Derived.Test.YteidkehoekbcaaaGreatOwnK11
import Derived.Test.YteidkehoekbcaaaGreatOwnK12
set_option maxRecDepth 100000
set_option maxHeartbeats 8000000
open Array renaming getElem?_eq_some_iff->J2
open Bool renaming and_eq_true->J7
open Go renaming heap_alloc_new->Kj,wp_at_succ->Kd,wp_at_zero->Kc
open Go.DataW.lit renaming injEq->QZ
open Go.Lit.int renaming injEq->Q0
open Go.Proofs.Tryz renaming prog->J3,underlying3->QY
open Go.RowKit.Below renaming refl->Kp
open List renaming append_nil->QO,filter_append->QN,filter_cons->LN,getElem?_eq_getElem->Kz,getElem?_eq_some_iff->Lj,map_append->Kl,map_cons->Lt,map_nil->QV,mem_map->Lr,mem_of_getElem?->KA,mem_singleton->KB,nodup_append->Kf,take_of_length_le->KF
open Nat renaming le_refl->Ki,le_trans->LG,lt_succ_iff_lt_or_eq->QX,zero_le->Ky
open Option.some renaming inj->KC

namespace Go.Proofs.YteidkehoekbcaaaGreat
section
open Go.RowKit Go.Maps
attribute [local go_sem ↓] Kc Kd
theorem DV (w:World):(zeroValue 3).run J3 w= .ok (.int .i64 0) w:=by kernel_rfl
def hO (w:World) (b:Nat) (L:List Int):Prop:= ∃ D:DataW Unit,w.ownsMap J3 2 (plainElem J3 3) b L.length D∧IsMap D∧ ∀ z:Int,D.atKey (.int .i64 z) (.lit (.int .i64 0))= .lit (.int .i64 (if z∈L then 1 else 0))
theorem hO.none {w:World} {b:Nat} (hb:w.heap[b]? =some (.map #[] 0)):hO w b [] :=
 ⟨.map [],⟨#[],0,hb,⟨by simp,MapKept.stamped_empty 0,by simp⟩,by simp,rfl⟩,isMap_empty,fun z=>by simp [DataW.atKey]⟩
theorem hO.lt {w:World} {b:Nat} {L:List Int} (h:hO w b L):b < w.heap.size:=by obtain ⟨D,h,_⟩:=h; exact h.lt
theorem hO.same {w w':World} {b:Nat} {L:List Int} (h:hO w b L) (hs:w'.heap[b]? =w.heap[b]?):hO w' b L:=by
 obtain ⟨D,⟨es,clock,hb,r⟩,h2⟩:=h;exact ⟨D,⟨es,clock,hs.trans hb,r⟩,h2⟩
theorem hO.look {w:World} {b:Nat} {L:List Int} (h:hO w b L) {z:Int} (hz:(Lit.int .i64 z).wf=true):(Instr.lookup 326 (.map (some b)) (.int .i64 z) false).run J3 w= .ok (.int .i64 (if z∈L then 1 else 0)) w:=by
 obtain ⟨D,hown,_,hat⟩:=h;obtain ⟨c,hrun,hc,_⟩:=hown.lookup_int jb Tryz.underlying326 QY (DV w) (vX hz);rw [hat z] at hc;simp only [QZ,Q0,true_and] at hc;rw [hrun,hc]
theorem hO.put {w:World} {b:Nat} {L:List Int} (h:hO w b L) (hl:L.length≤1048576) {z:Int} (hz:(Lit.int .i64 z).wf=true) (v:Int) (hv:v=(if z∈L then 1 else 0)+1):
  ∃ w',(Instr.mapUpdate 326 (.map (some b)) (.int .i64 z) (.int .i64 v)).run J3 w= .ok () w'∧w.grownBy w' (some b)∧w'.heap.size=w.heap.size∧
   (∀ W:World,W.heap=w'.heap→(Instr.lookup 326 (.map (some b)) (.int .i64 z) false).run J3 W= .ok (.int .i64 v) W)∧(z∉L→hO w' b (L ++ [z])):=by
 obtain ⟨D,hown,hm,hat⟩:=h;have hvw:(Lit.int .i64 v).wf=true:=by
  subst hv
  split <;> decide
 obtain ⟨w',hrun,ho,ht⟩:=hown.store jb Tryz.underlying326 (Nat.lt_of_le_of_lt hl (by decide)) (vX hz) (plainElem_int (H:=Unit) QY hvw);refine ⟨w',hrun,ht.grown,?_,fun W hW=> ?_,fun hn=>⟨_,by rw [List.length_append]; exact ho,hm.put _ _,fun y=> ?_⟩⟩
 ·obtain ⟨es,clock,es',clock',hb,rfl⟩:=ht
  simp [ChangeMaps.setBlock]
 ·have Hw:W.ownsMap J3 2 (plainElem J3 3) b (L.length+1) (D.put (.int .i64 z) (.lit (.int .i64 v))):=by
   obtain ⟨es,clock,hb,r⟩:=ho;exact ⟨es,clock,by rw [hW]; exact hb,r⟩
  obtain ⟨c,hr,hc,_⟩:=Hw.lookup_int jb Tryz.underlying326 QY (DV W) (vX hz);rw [atKey_put_same hm (jb.key (vX hz))] at hc;simp only [QZ,Q0,true_and] at hc;rw [hr,hc]
 ·by_cases hy:y=z
  ·subst hy
   rw [atKey_put_same hm (jb.key (vX hz))];simp [hv,hn]
  ·rw [atKey_put_other (fun e=>hy (by simpa using e)),hat y]
   simp [hy]
def Cf (l:List (ao × Nat)):List Int:=Hu (l.map fun p=>p.1.toaD)
def km (next:Int) (l:List (ao × Nat)):Prop:=nQ next (l.map fun p=>p.1.toaD)
theorem we (l:List (ao × Nat)) (p:ao × Nat):Cf (l ++ [p])=Cf l ++ (if p.1.Md=0 then [] else [p.1.RU]):=by
 simp only [Cf,Hu,Kl,QN,Lt,QV,LN,List.filter_nil];by_cases h:p.1.Md=0 <;> simp [h]
theorem vx {next:Int} {l:List (ao × Nat)} {p:ao × Nat} (h:km next l) (hp: ¬ p.1.Md=0→1≤p.1.RU∧p.1.RU < next∧p.1.RU∉Cf l):km next (l ++ [p]):=by
 refine ⟨fun x hx=> ?_,?_⟩
 ·rw [Kl] at hx
  rcases List.mem_append.1 hx with hx | hx
  ·exact h.1 x hx
  ·simp only [Lt,QV,KB] at hx
   subst hx;exact fun h0=>⟨(hp h0).1,(hp h0).2.1⟩
 ·have e:=we l p
  unfold Cf at e;rw [e];by_cases h0:p.1.Md=0
  ·simp only [h0,if_true,QO]; exact h.2
  ·simp only [h0,if_false]
   refine Kf.2 ⟨h.2,by simp,fun a ha b hb=> ?_⟩;simp only [KB] at hb;subst hb;intro e2;subst e2;exact (hp h0).2.2 ha
theorem rU {next:Int} {l:List (ao × Nat)} {k:Nat} {p:ao × Nat} (hp:l[k]? =some p) (h0: ¬ p.1.Md=0) (hb: ¬ (1≤p.1.RU∧p.1.RU < next∧p.1.RU∉Cf (l.take k))): ¬ km next l:=fun h=>by
 have hm:p.1.toaD∈l.map fun p=>p.1.toaD:=Lr.2 ⟨p,KA hp,rfl⟩
 have h1:=h.1 _ hm h0;refine hb ⟨h1.1,h1.2,fun hmem=> ?_⟩;have e:l=l.take k ++ p :: l.drop (k+1):=kL hp;have h2:=h.2;rw [e] at h2;simp only [Hu,Kl,Lt,QN,LN] at h2;have h0':(!decide (p.1.toaD.Md=0))=true:=by simp [h0]
 rw [if_pos h0',Lt] at h2;exact (Kf.1 h2).2.2 p.1.RU hmem p.1.RU (by simp) rfl
def A6 (w:World) (q:ol) (lp:List (ao × Nat)) (e:Ending) (w':World):Prop:= ∃ ok:Bool,e= .returned (.bool ok)∧(ok=true↔km q.next lp)∧Below w.heap.size w w'
theorem kO {w w':World} {q:ol} {lp:List (ao × Nat)} (h: ¬ km q.next lp) (hb:Below w.heap.size w w'):A6 w q lp (.returned (.bool false)) w':=⟨false,rfl,⟨(fun h=>by cases h),fun h'=>absurd h' h⟩,hb⟩
structure rO (w w2 wr:World) (o:Nat) (q:ol) (lp:List (ao × Nat)) (L:List Int):Prop where
 taken:hO wr w.heap.size L
 grown:w2.grownBy wr (some w.heap.size)
theorem rO.block {w w2 wr:World} {o:Nat} {q:ol} {lp:List (ao × Nat)} {L:List Int} (h:rO w w2 wr o q lp L) {g:Nat} (hg:g < w2.heap.size) (hne: ¬ g=w.heap.size):wr.heap[g]? =w2.heap[g]? :=h.grown.block g hg (fun e=>hne (KC e))
theorem BI (o:Nat) (q:ol) (lp:List (ao × Nat)) (ms me mb mf:df) (w:World) (h:kX w w o q lp ms me mb mf) (hl:lp.length≤1048576) (hwf: ∀ p∈lp,p.1.Wf):
  Calls J3 181 #[.pointer (some ⟨o,0,none⟩)] w fun e w'=>A6 w q lp e w':=by
 have hmk:=run_makeMap (P:=J3) 326;have H:Hid (kX w w o q lp ms me mb mf∧ ∀ p∈lp,p.1.Wf):=⟨h,hwf⟩
 have p7:o < w.heap.size:=(J2.1 h.opn).1;have c2:w.cell? ⟨o,2,none⟩=some (.int .i64 6):=h.opn.cell 2;have c3:w.cell? ⟨o,3,none⟩=some (.map (some q.bp)):=h.opn.cell 3;have HK:Hid ((RW (fun x:ao=>x.id) lp).length=lp.length):=bZ lp;clear h hwf
 go_enter Tryz.func181,Tryz.ntmps181
 go_wp2_with fail;refine (mq 6 q.bp (RW (fun x:ao=>x.id) lp) (w.alloc (.map #[] 0)) (H.I.1.eh.map.below ((Kp _ w).alloc (Ki _) _)) (by rw [HK.I]; exact hl) (DE H.I.2)).mono ?_;rintro e w2 ⟨a,cap,rfl,hown,hb2⟩;obtain ⟨a',cap',hv,hrow⟩:=cr hown;cases hv;have HR:Hid (Row w2 a ((RW (fun x:ao=>x.id) lp).map fun p=>dt p.2)):=hrow;have HRB:Hid (∀ g,a=some ⟨g,0,none⟩→w.heap.size+1≤g∧g < w2.heap.size):=fun g hg=>by
  subst hg
  have:=hown.lt g rfl
  simpa using this
 have cy:Hid (Below w.heap.size w w2):=((Kp _ w).alloc (Ki _) _).trans (hb2.mono (by simp));have Hz:Hid (hO w2 w.heap.size []):=hO.none ((hb2.block _ (by simp)).trans (Kj _ _));rw [HK.I];clear hown hrow hb2 c2 c3 hmk;go_wp2_with fail
 go_loopw [13] (fun i wr=> ∃ k:Nat,k≤lp.length∧i= .int .i64 k∧Hid (km q.next (lp.take k)∧rO w w2 wr o q lp (Cf (lp.take k)))) (fun i _=>lp.length - (intOf i).toNat)
 case atStart=>exact ⟨0,Ky _,rfl,⟨⟨(fun x hx=>by simp at hx),by simp [Hu]⟩,⟨by simpa [Cf,Hu] using Hz.I,⟨rfl,rfl,rfl,Ki _,fun _ _ _=>rfl⟩⟩⟩⟩
 case round=>
  obtain ⟨k,hk,rfl,HA⟩:=hrel;have Ez:Hid (Below w.heap.size w wr):=cy.I.grown HA.I.2.grown cy.I.size (fun k hk=>by cases hk; exact Ki _);by_cases hlt:k < lp.length
  ·have i0:(0:Int)≤(k:Int):=by omega
   have i1:(k:Int) < (lp.length:Int):=by omega
   obtain ⟨p,hp⟩: ∃ p,lp[k]? =some p:=⟨_,Kz hlt⟩
   have hpm:=KA hp;have hrw:=HR.I k (dt p.2) (by simp [RW,hp]);obtain ⟨g,ha,hc0⟩:=hrw;have hgb:=HRB.I g ha;have hc:wr.cell? ⟨g,k,none⟩=some (.pointer (some ⟨p.2,0,none⟩)):=(World.cell?_of_block (w:=w2) (a:=⟨g,k,none⟩) (HA.I.2.block (g:=g) hgb.2 (fun e=>by have h1:=hgb.1; have e':g=w.heap.size:=e; omega))).trans hc0;subst ha;have lD:wr.heap[p.2]? =some (.cells (aX p.1) 148 (0,0)):=(Ez.I.block _ (J2.1 (H.I.1.eh.box p hpm)).1).trans (H.I.1.eh.box p hpm);have hob:fa wr o q:=(Ez.I.block _ p7).trans H.I.1.opn;have HP:Hid (lp[k]? =some p∧p∈lp):=⟨hp,hpm⟩
   have HW:Hid ((Lit.int .i64 p.1.RU).wf=true):=(H.I.2 p hpm).RU;have HX:Hid (wr.heap[p.2]? =some (.cells (aX p.1) 148 (0,0))∧fa wr o q):=⟨lD,hob⟩
   have k3:=(bo lD).2.2.2.1;have k11:=(bo lD).2.2.2.2.2.2.2.2.2.2.2;have hls:(Cf (lp.take k)).length≤1048576:=by
    have h1:(Cf (lp.take k)).length≤(lp.take k).length:=by
     simp only [Cf,Hu,List.length_map];exact LG (List.length_filter_le _ _) (by simp)
    rw [List.length_take] at h1;omega
   clear hp hpm hc0 hgb lD hob;by_cases h0:p.1.Md=0
   ·have HY:Hid (km q.next (lp.take (k+1))∧rO w w2 wr o q lp (Cf (lp.take (k+1)))):=by
     rw [cj HP.I.1];refine ⟨vx HA.I.1 (fun h=>absurd h0 h),?_⟩;rw [we,if_pos h0,QO];exact HA.I.2
    have e0:(p.1.Md == 0)=true:=by simp [h0]
    clear h0;go_wp2;go_roundw
    case rel=>exact ⟨k+1,by omega,by go_num,HY⟩
    case measure=>simp [intOf]; omega
   ·have e0:(p.1.Md == 0)=false:=by simp [h0]
    have H0:Hid (¬ p.1.Md=0):=h0;clear h0;have hlk:=HA.I.2.taken.look HW.I;by_cases hz:p.1.RU∈Cf (lp.take k)
    ·rw [if_pos hz] at hlk
     obtain ⟨w5,hput,wY,hsz5,FJ,-⟩:=HA.I.2.taken.put hls HW.I 2 (by rw [if_pos hz]; rfl);have HN:Hid (¬ km q.next lp):=rU HP.I.1 H0.I (fun hh=>hh.2.2 hz);have Dk:Hid (Below w.heap.size w w5):=Ez.I.grown wY Ez.I.size (fun k hk=>by cases hk; exact Ki _);have hx5:w5.heap[p.2]? =some (.cells (aX p.1) 148 (0,0)):=(Dk.I.block _ (J2.1 (H.I.1.eh.box p HP.I.2)).1).trans (H.I.1.eh.box p HP.I.2);have oe:fa w5 o q:=(Dk.I.block _ p7).trans H.I.1.opn;have f11:=(bo hx5).2.2.2.2.2.2.2.2.2.2.2;have f1:w5.cell? ⟨o,1,none⟩=some (.int .i64 q.next):=oe.cell 1;have rL:=FJ w5.drew rfl;clear FJ wY hsz5 hx5 oe hz;by_cases hA:p.1.RU < 1
     ·have dA:decide (p.1.RU < 1)=true:=decide_eq_true hA
      clear hA;go_wp2_with fail;refine aT (fun w'=>w'=w5.drew) (by kernel_rfl) rfl ?_
      iterate 6 (refine PI ?_ (hy:=fun w0 hS0=>by subst hS0; go_simp; try with_reducible rfl))
      iterate 9 (refine nl ?_; simp only [pt,sb,s0,s1])
      iterate 2 (refine PI ?_ (hy:=fun w0 hS0=>by subst hS0; go_simp; try with_reducible rfl))
      iterate 7 (refine nl ?_; simp only [pt,sb,s0,s1])
      (refine PI ?_ (hy:=fun w0 hS0=>by subst hS0; go_simp; try with_reducible rfl))
      refine bk (by kernel_rfl) ?_ _;intro w1 cm;subst cm;go_wp2;go_ret;exact kO HN.I Dk.I.drew
     have dA:decide (p.1.RU < 1)=false:=decide_eq_false hA;by_cases hB:q.next≤p.1.RU
     ·have dB:decide (q.next≤p.1.RU)=true:=decide_eq_true hB
      clear hA hB;go_wp2_with fail;refine aT (fun w'=>w'=w5.drew) (by kernel_rfl) rfl ?_
      iterate 17 (refine PI ?_ (hy:=fun w0 hS0=>by subst hS0; go_simp; try with_reducible rfl))
      iterate 7 (refine nl ?_; simp only [pt,sb,s0,s1])
      (refine PI ?_ (hy:=fun w0 hS0=>by subst hS0; go_simp; try with_reducible rfl))
      refine bk (by kernel_rfl) ?_ _;intro w1 cm;subst cm;go_wp2;go_ret;exact kO HN.I Dk.I.drew
     have dB:decide (q.next≤p.1.RU)=false:=decide_eq_false hB;clear hA hB;go_wp2_with fail;refine aT (fun w'=>w'=w5.drew) (by kernel_rfl) rfl ?_
     iterate 25 (refine PI ?_ (hy:=fun w0 hS0=>by subst hS0; go_simp; try with_reducible rfl))
     refine bk (by kernel_rfl) ?_ _;intro w1 cm;subst cm;go_wp2;go_ret;exact kO HN.I Dk.I.drew
    ·rw [if_neg hz] at hlk
     obtain ⟨w5,hput,wY,hsz5,FJ,htk⟩:=HA.I.2.taken.put hls HW.I 1 (by rw [if_neg hz]; rfl);have Dk:Hid (Below w.heap.size w w5):=Ez.I.grown wY Ez.I.size (fun k hk=>by cases hk; exact Ki _);have EY:Hid (rO w w2 w5 o q lp (Cf (lp.take k) ++ [p.1.RU])):=⟨htk hz,⟨wY.os.trans HA.I.2.grown.os,wY.tape.trans HA.I.2.grown.tape,wY.output.trans HA.I.2.grown.output,LG HA.I.2.grown.size wY.size,fun k hk hne=>(wY.block k (Nat.lt_of_lt_of_le hk HA.I.2.grown.size) hne).trans (HA.I.2.grown.block k hk hne)⟩⟩
     have HZ:Hid (¬ p.1.RU∈Cf (lp.take k)):=hz;have hx5:w5.heap[p.2]? =some (.cells (aX p.1) 148 (0,0)):=(Dk.I.block _ (J2.1 (H.I.1.eh.box p HP.I.2)).1).trans (H.I.1.eh.box p HP.I.2);have oe:fa w5 o q:=(Dk.I.block _ p7).trans H.I.1.opn;have f11:=(bo hx5).2.2.2.2.2.2.2.2.2.2.2;have f1:w5.cell? ⟨o,1,none⟩=some (.int .i64 q.next):=oe.cell 1;have rL:=FJ w5.drew rfl;clear FJ wY hsz5 hx5 oe hz htk;by_cases hA:p.1.RU < 1
     ·have dA:decide (p.1.RU < 1)=true:=decide_eq_true hA
      have HN:Hid (¬ km q.next lp):=rU HP.I.1 H0.I (fun hh=>by have:=hh.1; omega);clear hA;go_wp2_with fail;refine aT (fun w'=>w'=w5.drew) (by kernel_rfl) rfl ?_
      iterate 6 (refine PI ?_ (hy:=fun w0 hS0=>by subst hS0; go_simp; try with_reducible rfl))
      iterate 9 (refine nl ?_; simp only [pt,sb,s0,s1])
      iterate 2 (refine PI ?_ (hy:=fun w0 hS0=>by subst hS0; go_simp; try with_reducible rfl))
      iterate 7 (refine nl ?_; simp only [pt,sb,s0,s1])
      (refine PI ?_ (hy:=fun w0 hS0=>by subst hS0; go_simp; try with_reducible rfl))
      refine bk (by kernel_rfl) ?_ _;intro w1 cm;subst cm;go_wp2;go_ret;exact kO HN.I Dk.I.drew
     have dA:decide (p.1.RU < 1)=false:=decide_eq_false hA;by_cases hB:q.next≤p.1.RU
     ·have dB:decide (q.next≤p.1.RU)=true:=decide_eq_true hB
      have HN:Hid (¬ km q.next lp):=rU HP.I.1 H0.I (fun hh=>by have:=hh.2.1; omega);clear hA hB;go_wp2_with fail;refine aT (fun w'=>w'=w5.drew) (by kernel_rfl) rfl ?_
      iterate 17 (refine PI ?_ (hy:=fun w0 hS0=>by subst hS0; go_simp; try with_reducible rfl))
      iterate 7 (refine nl ?_; simp only [pt,sb,s0,s1])
      (refine PI ?_ (hy:=fun w0 hS0=>by subst hS0; go_simp; try with_reducible rfl))
      refine bk (by kernel_rfl) ?_ _;intro w1 cm;subst cm;go_wp2;go_ret;exact kO HN.I Dk.I.drew
     have dB:decide (q.next≤p.1.RU)=false:=decide_eq_false hB;have HY:Hid (km q.next (lp.take (k+1))∧rO w w2 w5 o q lp (Cf (lp.take (k+1)))):=by
      rw [cj HP.I.1];refine ⟨vx HA.I.1 (fun _=>⟨by omega,by omega,HZ.I⟩),?_⟩;rw [we,if_neg H0.I];exact EY.I
     clear hA hB;go_wp2_with fail;refine aT (fun w'=>w'=w5.drew) (by kernel_rfl) rfl ?_
     iterate 25 (refine PI ?_ (hy:=fun w0 hS0=>by subst hS0; go_simp; try with_reducible rfl))
     refine bk (by kernel_rfl) ?_ _;intro w1 cm;subst cm;go_wp2;go_roundw
     case rel=>exact ⟨k+1,by omega,by go_num,⟨HY.I.1,⟨HY.I.2.taken.same rfl,⟨HY.I.2.grown.os,HY.I.2.grown.tape,HY.I.2.grown.output,HY.I.2.grown.size,HY.I.2.grown.block⟩⟩⟩⟩
     case measure=>simp [intOf]; omega
  ·have i1: ¬ (k:Int) < (lp.length:Int):=by omega
   have HT:Hid (km q.next lp):=by have:=HA.I.1; rwa [KF (by omega)] at this
   go_wp2;go_ret;exact ⟨true,rfl,⟨fun _=>HT.I,fun _=>rfl⟩,Ez.I⟩
end
section
open Go.RowKit
attribute [local go_sem ↓] Kc Kd
def oQ (p:af) (x:ao):Bool:=cH x.toaD && fF p.next x.toaD && dG p.pure x.toaD
theorem rG (p:af) (x:ao):bh p.pure x.toaD=(cv x.id 1 1000 && oQ p x):=by
 show (cv x.id 1 1000 && cH x.toaD && fF p.next x.toaD && dG p.pure x.toaD)=_
 simp only [oQ,Bool.and_assoc]
def lR (l:List ao):Prop:=(l.map (·.RU)).Pairwise (fun a b=> ¬ (a=b∧0 < b))
theorem uU {l:List ao} {k:Nat} {x:ao} (hx:l[k]? =some x) (h:lR (l.take k)) (hn: ∀ m y,m < k→l[m]? =some y→ ¬ (y.RU=x.RU∧0 < x.RU)):lR (l.take (k+1)):=by
 rw [cj hx];unfold lR;rw [Kl,List.pairwise_append];refine ⟨h,List.pairwise_singleton _ _,fun a ha b hb=> ?_⟩;simp only [Lt,QV,List.mem_cons,List.not_mem_nil,or_false] at hb;subst hb;obtain ⟨y,hy,rfl⟩:=Lr.1 ha;obtain ⟨m,hm⟩:=List.mem_iff_getElem?.1 hy;rw [List.getElem?_take] at hm
 split at hm
 ·rename_i hlt
  exact hn m y hlt hm
 ·cases hm
theorem xn {l:List ao} {i m:Nat} {x y:ao} (hx:l[i]? =some x) (hy:l[m]? =some y) (hm:m < i) (h:y.RU=x.RU∧0 < x.RU): ¬ lR l:=fun ha=>by
 unfold lR at ha;rw [List.pairwise_map,List.pairwise_iff_getElem] at ha;obtain ⟨hi,rfl⟩:=Lj.1 hx;obtain ⟨hj,rfl⟩:=Lj.1 hy;exact ha m i hj hi hm h
theorem jk (p:af):aQ p.pure↔(cv p.id 1 6=true∧cv p.next 1 1000000000=true∧p.L8.length≤6∧bv p=true∧aw (fun x:ao=>x.id) (oQ p) 0 p.L8=true∧lR p.L8):=by
 have e1:aw (·.id) (fun x=>cH x && fF p.pure.next x && dG p.pure x) 0 p.pure.L8=aw (fun x:ao=>x.id) (oQ p) 0 p.L8:=jL _ _ _ _ _;have e2:p.pure.L8.length=p.L8.length:=by simp [af.pure]
 have e3:aw (·.id) ct 0 p.pure.ae=aw (fun x:au=>x.id) (fun x=>ct x.toci) 0 p.ae:=jL _ _ _ _ _;have e4:aw (·.id) dj 0 p.pure.ai=aw (fun x:aM=>x.id) (fun x=>dj x.todS) 0 p.ai:=jL _ _ _ _ _;have e5:p.pure.ae.length=p.ae.length:=by simp [af.pure]
 have e6:p.pure.ai.length=p.ai.length:=by simp [af.pure]
 have e7:rb p.pure.L8↔lR p.L8:=by
  unfold rb lR
  show (((p.L8.map (·.toaD))).map (·.RU)).Pairwise _↔_
  rw [List.map_map];rfl
 constructor
 ·intro h
  have hp:=h.L8;rw [e1] at hp;have hb:=h.ae;rw [e3] at hb;have hq:=h.ai;rw [e4] at hq;have n1:=h.dl;have n2:=h.cb;have n3:=h.dH;rw [e2] at n1;rw [e5] at n2;rw [e6] at n3;have hs:aw (fun x:bD=>x.id) gw 0 p.aj=true:=h.aj;have he:aw (fun x:aB=>x.id) ey 0 p.L9=true:=h.L9;have hd:aw (fun x:az=>x.id) cU 0 p.ag=true:=h.ag;have l1:p.aj.length≤5:=h.fx;have l2:p.L9.length≤5:=h.cD;have l3:p.ag.length≤5:=h.cC;refine ⟨h.id,h.next,n1,?_,hp,e7.1 h.apart⟩;simp only [bv,hs,he,hd,hb,hq,decide_eq_true l1,decide_eq_true l2,decide_eq_true l3,decide_eq_true n2,decide_eq_true n3,Bool.and_self]
 ·rintro ⟨h1,h2,h3,h4,h5,h6⟩
  simp only [bv,J7,decide_eq_true_eq] at h4;obtain ⟨⟨⟨⟨⟨⟨⟨⟨⟨t1,t2⟩,t3⟩,t4⟩,t5⟩,d1⟩,d2⟩,d3⟩,d4⟩,d5⟩:=h4;exact ⟨h1,h2,by rw [e2]; exact h3,d1,d2,d3,by rw [e5]; exact d4,by rw [e6]; exact d5,by rw [e1]; exact h5,t1,t2,t3,by rw [e3]; exact t4,by rw [e4]; exact t5,e7.2 h6⟩
def zX (w:World) (p:af) (x:ao) (gs k:Nat) (pre:World→Prop) (w':World):Prop:=((w'.cell? ⟨w.heap.size,0,none⟩=some (.int .i64 p.id)∧w'.cell? ⟨w.heap.size,1,none⟩=some (.int .i64 p.next)∧w'.cell? ⟨w.heap.size,2,none⟩=some (.slice (some ⟨gs,0,none⟩) p.L8.length p.aW)∧w'.cell? ⟨w.heap.size,3,none⟩=some (.slice p.bc p.aj.length p.bF)∧w'.cell? ⟨w.heap.size,4,none⟩=some (.slice p.ay p.L9.length p.aO)∧w'.cell? ⟨w.heap.size,5,none⟩=some (.slice p.ax p.ag.length p.aP)∧w'.cell? ⟨w.heap.size,6,none⟩=some (.slice p.am p.ae.length p.aG)∧w'.cell? ⟨w.heap.size,7,none⟩=some (.slice p.aK p.ai.length p.aV))∧(w'.cell? ⟨gs,k * 12,none⟩=some (.int .i64 x.id)∧w'.cell? ⟨gs,k * 12+1,none⟩=some (.int .i64 x.RX)∧w'.cell? ⟨gs,k * 12+2,none⟩=some (.slice x.aY x.prog.length x.bH)∧w'.cell? ⟨gs,k * 12+3,none⟩=some (.int .i64 x.Md)∧w'.cell? ⟨gs,k * 12+4,none⟩=some (.int .i64 x.pc)∧w'.cell? ⟨gs,k * 12+5,none⟩=some (.int .i64 x.left)∧w'.cell? ⟨gs,k * 12+6,none⟩=some (.int .i64 x.Mg)∧w'.cell? ⟨gs,k * 12+7,none⟩=some (.int .i64 x.on)∧w'.cell? ⟨gs,k * 12+8,none⟩=some (.string x.held)∧w'.cell? ⟨gs,k * 12+9,none⟩=some (.string x.got)∧w'.cell? ⟨gs,k * 12+10,none⟩=some (.int .i64 x.code)∧w'.cell? ⟨gs,k * 12+11,none⟩=some (.int .i64 x.RU))∧pre w')∧Hid (av w' w.heap.size p∧af.At w' p∧Below w.heap.size w w')
theorem kQ {w w':World} {p:af} {x:ao} {gs k:Nat} {pre:World→Prop} (ha:p.aN=some ⟨gs,0,none⟩) (hx:p.L8[k]? =some x) (h:av w' w.heap.size p∧af.At w' p∧Below w.heap.size w w') (hp:pre w'):zX w p x gs k pre w':=by
 refine ⟨⟨?_,?_,hp⟩,h⟩
 ·have:=h.1.cells
  rw [ha] at this;exact this
 ·obtain ⟨g,e,hat⟩:=cn h.2.1.1 hx
  rw [ha] at e;cases e;exact hat
def rk (gs j:Nat) (y:ao) (w':World):Prop:=w'.cell? ⟨gs,j * 12,none⟩=some (.int .i64 y.id)
theorem rh {w':World} {p:af} {gs j:Nat} {y:ao} (ha:p.aN=some ⟨gs,0,none⟩) (hy:p.L8[j]? =some y) (h:af.At w' p):rk gs j y w':=by
 obtain ⟨g,e,hat⟩:=cn h.1 hy;rw [ha] at e;cases e;exact hat.1
theorem eV (p:af) (w:World) (hf:p.Fit) (hs: ∀ x∈p.L8,x.dX) (h:af.At w p):
  Calls J3 36 #[.agg p.cells] w fun e w'=>e= .returned (.bool (bK p.pure))∧Below w.heap.size w w':=by
 have HB:Hid (av (w.alloc (.cells p.cells 48)) w.heap.size p∧af.At (w.alloc (.cells p.cells 48)) p∧Below w.heap.size w (w.alloc (.cells p.cells 48))):=⟨Kj _ _,h.below ((Kp _ _).alloc (Ki _) _),(Kp _ _).alloc (Ki _) _⟩
 have fl:Hid (p.Fit∧ ∀ x∈p.L8,x.dX):=⟨hf,hs⟩
 have hpl:=hf.short.L8;clear h hf hs;obtain ⟨m0,m1,m2,m3,m4,m5,m6,m7⟩:=HB.I.1.cells;unfold af.cells at *
 go_enter Tryz.func36,Tryz.ntmps36
 go_wp2_with fail;generalize w.alloc (.cells p.row 48)=W at *;refine (dx p.id 1 6 _).mono ?_;rintro e w9 ⟨rfl,mW⟩;rw [mW];clear mW w9;cases h1:cv p.id 1 6
 ·have hz:True:=trivial
  have HN:Hid (bK p.pure=false):=dL fun hr=>by have:=((jk p).1 hr).1; rw [h1] at this; cases this
  clear h1;go_wp2;go_ret;exact ⟨al HN.I.symm,HB.I.2.2⟩
 have H1:Hid (cv p.id 1 6=true):=h1;clear h1;go_wp2_with fail;refine (dx p.next 1 1000000000 _).mono ?_;rintro e w9 ⟨rfl,mW⟩;rw [mW];clear mW w9;cases h2:cv p.next 1 1000000000
 ·have hz:True:=trivial
  have HN:Hid (bK p.pure=false):=dL fun hr=>by have:=((jk p).1 hr).2.1; rw [h2] at this; cases this
  clear h2;go_wp2;go_ret;exact ⟨al HN.I.symm,HB.I.2.2⟩
 have H2:Hid (cv p.next 1 1000000000=true):=h2;clear h2;by_cases h3:(6:Int) < (p.L8.length:Int)
 ·have hz:True:=trivial
  have HN:Hid (bK p.pure=false):=dL fun hr=>by have:=((jk p).1 hr).2.2.1; omega
  go_wp2;go_ret;exact ⟨al HN.I.symm,HB.I.2.2⟩
 have H3:Hid (p.L8.length≤6):=by show p.L8.length≤6; omega
 go_wp2_with fail;refine (zI p W fl.I.1 HB.I.2.1).mono ?_;rintro e W1 ⟨rfl,hb1⟩;have fQ:Hid (av W1 w.heap.size p∧af.At W1 p∧Below w.heap.size w W1):=⟨HB.I.1.below hb1,HB.I.2.1.below hb1,HB.I.2.2.trans (hb1.mono HB.I.2.2.size)⟩
 clear hb1 m0 m1 m2 m3 m4 m5 m6 m7 HB;cases h4:bv p
 ·have hz:True:=trivial
  have HN:Hid (bK p.pure=false):=dL fun hr=>by have:=((jk p).1 hr).2.2.2.1; rw [h4] at this; cases this
  clear h4;go_wp2;go_ret;exact ⟨al HN.I.symm,fQ.I.2.2⟩
 have H4:Hid (bv p=true):=h4;clear h4;go_wp2_with fail
 go_loopw [3] (fun i wr=> ∃ k:Nat,k≤p.L8.length∧i= .int .i64 k∧Hid (aw (fun x:ao=>x.id) (oQ p) 0 (p.L8.take k)=true∧lR (p.L8.take k)∧Below W1.heap.size W1 wr)) (fun i _=>p.L8.length - (intOf i).toNat)
 case atStart=>exact ⟨0,Ky _,rfl,⟨rfl,List.Pairwise.nil,Kp _ _⟩⟩
 case round=>
  obtain ⟨k,hk,rfl,HA⟩:=hrel;have cy:Hid (av wr w.heap.size p∧af.At wr p∧Below w.heap.size w wr):=⟨fQ.I.1.below HA.I.2.2,fQ.I.2.1.below HA.I.2.2,fQ.I.2.2.trans (HA.I.2.2.mono fQ.I.2.2.size)⟩
  obtain ⟨m0,m1,m2,m3,m4,m5,m6,m7⟩:=cy.I.1.cells;by_cases hlt:k < p.L8.length
  ·have i0:(0:Int)≤(k:Int):=by omega
   have i1:(k:Int) < (p.L8.length:Int):=by omega
   obtain ⟨x,hx⟩: ∃ x,p.L8[k]? =some x:=⟨_,Kz hlt⟩
   have hmem:=KA hx;obtain ⟨gs,ha,hat⟩:=cn cy.I.2.1.1 hx;have mR:Hid (p.aN=some ⟨gs,0,none⟩∧p.L8[k]? =some x):=⟨ha,hx⟩
   have HXS:Hid (x.dX∧Row wr x.aY (fk.flat x.prog)):=⟨fl.I.2 x hmem,lA cy.I.2.1.1 hx⟩
   have Jf:Hid (1≤p.next∧p.next≤1000000000):=bz.1 H2.I;rw [ha] at m2;clear hx hmem ha hat;go_wp2_with fail;cases td:bh p.pure x.toaD
   ·have HPO:Hid (bh p.pure x.toaD=false):=td
    have HN:Hid (bK p.pure=false):=dL fun hr=>by have h9:=((jk p).1 hr).2.2.2.2.1; rw [bS mR.I.2 (fun hh=>by have h8:=HPO.I; rw [rG,hh.1,hh.2.2] at h8; cases h8)] at h9; cases h9
    clear td m0 m1 m2 m3 m4 m5 m6 m7;refine aT (zX w p x gs k (fun _=>True)) (by kernel_rfl) (kQ mR.I.1 mR.I.2 ⟨cy.I.1,cy.I.2.1,cy.I.2.2.drew⟩ trivial) ?_
    iterate 6 (refine PI ?_ (hy:=fun w0 hS0=>by obtain ⟨⟨⟨q0,q1,q2,q3,q4,q5,q6,q7⟩,⟨x0,x1,x2,x3,x4,x5,x6,x7,x8,x9,x10,Dm⟩,hpre⟩,hH⟩:=hS0; go_simp; try with_reducible rfl))
    refine cl (.bool false) 95 #[.agg (p.L6 gs),.agg x.row] ?_ ?_ ?_
    ·intro w0 hS0
     obtain ⟨⟨⟨q0,q1,q2,q3,q4,q5,q6,q7⟩,⟨x0,x1,x2,x3,x4,x5,x6,x7,x8,x9,x10,Dm⟩,hpre⟩,hH⟩:=hS0
     go_simp
     try with_reducible rfl
    ·intro w0 hS0
     have hq:=hS0.2.I;rw [show (Value.agg (p.L6 gs))= .agg p.cells by unfold af.cells; rw [mR.I.1]];refine (lk p x w0 fl.I.1.short HXS.I.1 Jf.I.1 Jf.I.2 hq.2.1 (lA hq.2.1.1 mR.I.2)).mono ?_;rintro e w2 ⟨rfl,hb2⟩;exact ⟨al HPO.I,kQ mR.I.1 mR.I.2 ⟨hq.1.below hb2,hq.2.1.below hb2,hq.2.2.trans (hb2.mono hq.2.2.size)⟩ trivial⟩
    simp only [pt,sb,s0,s1]
    iterate 2 (refine PI ?_ (hy:=fun w0 hS0=>by obtain ⟨⟨⟨q0,q1,q2,q3,q4,q5,q6,q7⟩,⟨x0,x1,x2,x3,x4,x5,x6,x7,x8,x9,x10,Dm⟩,hpre⟩,hH⟩:=hS0; go_simp; try with_reducible rfl))
    iterate 18 (refine nl ?_; simp only [pt,sb,s0,s1])
    (refine PI ?_ (hy:=fun w0 hS0=>by obtain ⟨⟨⟨q0,q1,q2,q3,q4,q5,q6,q7⟩,⟨x0,x1,x2,x3,x4,x5,x6,x7,x8,x9,x10,Dm⟩,hpre⟩,hH⟩:=hS0; go_simp; try with_reducible rfl))
    refine bk (by kernel_rfl) ?_ _;intro w1 cm;have HZ:Hid (Below w.heap.size w w1):=cm.2.I.2.2;clear cm;go_wp2;go_ret;exact ⟨al HN.I.symm,HZ.I⟩
   have HPO:Hid (bh p.pure x.toaD=true):=td;have lN:Hid (cv x.id 1 1000=true∧oQ p x=true):=by have h8:=HPO.I; rw [rG,J7] at h8; exact h8
   clear td;by_cases hk0:k=0
   ·have dk:decide (0 < k)=false:=decide_eq_false (by omega)
    have j6:Hid (bW (fun x:ao=>x.id) 0 (p.L8.take k) < x.id):=by show _ < _; rw [hk0,lx]; have:=bz.1 lN.I.1; omega
    clear hk0 m0 m1 m2 m3 m4 m5 m6 m7;refine aT (fun w'=>zX w p x gs k (fun _=>True) w'∧Hid (Below wr.heap.size wr w')) (by kernel_rfl) ⟨kQ mR.I.1 mR.I.2 ⟨cy.I.1,cy.I.2.1,cy.I.2.2.drew⟩ trivial,(Kp _ _).drew⟩ ?_
    iterate 6 (refine PI ?_ (hy:=fun w0 hS0=>by obtain ⟨⟨⟨⟨q0,q1,q2,q3,q4,q5,q6,q7⟩,⟨x0,x1,x2,x3,x4,x5,x6,x7,x8,x9,x10,Dm⟩,hpre⟩,hH⟩,hH2⟩:=hS0; go_simp; try with_reducible rfl))
    refine cl (.bool true) 95 #[.agg (p.L6 gs),.agg x.row] ?_ ?_ ?_
    ·intro w0 hS0
     obtain ⟨⟨⟨⟨q0,q1,q2,q3,q4,q5,q6,q7⟩,⟨x0,x1,x2,x3,x4,x5,x6,x7,x8,x9,x10,Dm⟩,hpre⟩,hH⟩,hH2⟩:=hS0
     go_simp
     try with_reducible rfl
    ·intro w0 hS0
     have hq:=hS0.1.2.I;rw [show (Value.agg (p.L6 gs))= .agg p.cells by unfold af.cells; rw [mR.I.1]];refine (lk p x w0 fl.I.1.short HXS.I.1 Jf.I.1 Jf.I.2 hq.2.1 (lA hq.2.1.1 mR.I.2)).mono ?_;rintro e w2 ⟨rfl,hb2⟩;exact ⟨al HPO.I,kQ mR.I.1 mR.I.2 ⟨hq.1.below hb2,hq.2.1.below hb2,hq.2.2.trans (hb2.mono hq.2.2.size)⟩ trivial,hS0.2.I.trans (hb2.mono hS0.2.I.size)⟩
    simp only [pt,sb,s0,s1]
    iterate 5 (refine PI ?_ (hy:=fun w0 hS0=>by obtain ⟨⟨⟨⟨q0,q1,q2,q3,q4,q5,q6,q7⟩,⟨x0,x1,x2,x3,x4,x5,x6,x7,x8,x9,x10,Dm⟩,hpre⟩,hH⟩,hH2⟩:=hS0; go_simp; try with_reducible rfl))
    iterate 14 (refine nl ?_; simp only [pt,sb,s0,s1])
    iterate 2 (refine PI ?_ (hy:=fun w0 hS0=>by obtain ⟨⟨⟨⟨q0,q1,q2,q3,q4,q5,q6,q7⟩,⟨x0,x1,x2,x3,x4,x5,x6,x7,x8,x9,x10,Dm⟩,hpre⟩,hH⟩,hH2⟩:=hS0; go_simp; try with_reducible rfl))
    refine bk (by kernel_rfl) ?_ _;intro w1 cm;have HZ:Hid (av w1 w.heap.size p∧af.At w1 p∧Below w.heap.size w w1):=cm.1.2.I;have HZW:Hid (Below wr.heap.size wr w1):=cm.2.I;clear cm;obtain ⟨z0,z1,z2,z3,z4,z5,z6,z7⟩:=HZ.I.1.cells;go_wp2_with fail;clear z0 z1 z2 z3 z4 z5 z6 z7
    go_loopw [4] (fun i wr=> ∃ n:Nat,n≤k∧i= .int .i64 n∧Hid ((∀ m y,m < n→p.L8[m]? =some y→ ¬ (y.RU=x.RU∧0 < x.RU))∧Below w1.heap.size w1 wr)) (fun i _=>k - (intOf i).toNat)
    case atStart=>exact ⟨0,Ky _,rfl,⟨fun m y hm=>absurd hm (by omega),Kp _ _⟩⟩
    case round=>
     obtain ⟨n,hn,rfl,HI⟩:=hrel
     rename World=>wi
     have iP:Hid (av wi w.heap.size p∧af.At wi p∧Below w.heap.size w wi):=⟨HZ.I.1.below HI.I.2,HZ.I.2.1.below HI.I.2,HZ.I.2.2.trans (HI.I.2.mono HZ.I.2.2.size)⟩
     obtain ⟨z0,z1,z2,z3,z4,z5,z6,z7⟩:=iP.I.1.cells;rw [mR.I.1] at z2;by_cases hnk:n < k
     ·have j0':(0:Int)≤(n:Int):=by omega
      have j1':(n:Int) < (p.L8.length:Int):=by omega
      have j2':(n:Int) < ((k:Nat):Int):=by omega
      obtain ⟨v,hv⟩: ∃ v,p.L8[n]? =some v:=⟨_,Kz (by omega)⟩
      obtain ⟨g1,e1,FX⟩:=cn iP.I.2.1.1 hv;obtain ⟨g2,e2,g8⟩:=cn iP.I.2.1.1 mR.I.2;rw [mR.I.1] at e1 e2;cases e1;cases e2;have d0:=FX.2.2.2.2.2.2.2.2.2.2.2;have d1:=g8.2.2.2.2.2.2.2.2.2.2.2;have HV:Hid (p.L8[n]? =some v):=hv;clear FX g8 hv;by_cases hsi:v.RU=x.RU
      ·have es:(v.RU == x.RU)=true:=by simp [hsi]
       have HSI:Hid (v.RU=x.RU):=hsi;clear hsi;by_cases hpos:0 < x.RU
       ·have dpos:decide (0 < x.RU)=true:=decide_eq_true hpos
        have HN:Hid (bK p.pure=false):=dL fun hr=>absurd ((jk p).1 hr).2.2.2.2.2 (xn mR.I.2 HV.I hnk ⟨HSI.I,hpos⟩)
        go_wp2_with fail
        go_quiet (fail)
        go_wp2;go_ret;exact ⟨al HN.I.symm,bd iP.I.2.2 _⟩
       have dpos:decide (0 < x.RU)=false:=decide_eq_false hpos;have Dx:Hid (¬ (v.RU=x.RU∧0 < x.RU)):=fun hh=>hpos hh.2
       clear hpos;go_wp2_with fail
       go_quiet (fail)
       go_wp2;go_roundw
       case rel=>exact ⟨n+1,by omega,by go_num,⟨fun m y hm hy=>by rcases QX.1 hm with h5 | h5; exact HI.I.1 m y h5 hy; subst h5; rw [HV.I] at hy; cases hy; exact Dx.I,bd HI.I.2 _⟩⟩
       case measure=>simp [intOf]; omega
      have es:(v.RU == x.RU)=false:=by simp [hsi]
      have Dx:Hid (¬ (v.RU=x.RU∧0 < x.RU)):=fun hh=>hsi hh.1
      clear hsi;go_wp2_with fail
      go_quiet (fail)
      go_wp2;go_roundw
      case rel=>exact ⟨n+1,by omega,by go_num,⟨fun m y hm hy=>by rcases QX.1 hm with h5 | h5; exact HI.I.1 m y h5 hy; subst h5; rw [HV.I] at hy; cases hy; exact Dx.I,bd HI.I.2 _⟩⟩
      case measure=>simp [intOf]; omega
     ·have j2': ¬ (n:Int) < ((k:Nat):Int):=by omega
      have en:n=k:=by omega
      have wg:Hid (lR (p.L8.take (k+1))):=uU mR.I.2 HA.I.2.1 (fun m y hm hy=>HI.I.1 m y (by omega) hy);have HY:Hid (aw (fun x:ao=>x.id) (oQ p) 0 (p.L8.take (k+1))=true):=ed HA.I.1 mR.I.2 lN.I.1 j6.I lN.I.2;clear en;have HE:Hid (Below W1.heap.size W1 wi):=HA.I.2.2.trans ((HZW.I.trans (HI.I.2.mono HZW.I.size)).mono HA.I.2.2.size);go_wp2;go_roundw
      case rel=>exact ⟨k+1,by omega,by go_num,⟨HY.I,wg.I,HE.I⟩⟩
      case measure=>simp [intOf]; omega
   obtain ⟨j,rfl⟩: ∃ j,k=j+1:=⟨k - 1,by omega⟩
   obtain ⟨y,hy⟩: ∃ y,p.L8[j]? =some y:=⟨_,Kz (by omega)⟩
   have j0:(0:Int)≤(j:Int):=by omega
   have j1:(j:Int) < (p.L8.length:Int):=by omega
   have i2:(0:Int)≤(j:Int)+1:=by omega
   have i3:(j:Int)+1 < (p.L8.length:Int):=by omega
   have wk:IntKind.i64.wrap (j:Int)=(j:Int):=by rw [IntKind.wrap_i64]; omega
   have wV:Hid (bW (fun x:ao=>x.id) 0 (p.L8.take (j+1))=y.id∧p.L8[j]? =some y):=⟨eG hy 0,hy⟩
   clear hy hk0 m0 m1 m2 m3 m4 m5 m6 m7;by_cases hle:x.id≤y.id
   ·have dp:decide (x.id≤y.id)=true:=decide_eq_true hle
    have HN:Hid (bK p.pure=false):=dL fun hr=>by have h9:=((jk p).1 hr).2.2.2.2.1; rw [bS mR.I.2 (fun hh=>by have h8:=hh.2.1; rw [wV.I.1] at h8; have h8:y.id < x.id:=h8; omega)] at h9; cases h9
    refine aT (fun w'=>zX w p x gs (j+1) (rk gs j y) w'∧Hid (Below wr.heap.size wr w')) (by kernel_rfl) ⟨kQ mR.I.1 mR.I.2 ⟨cy.I.1,cy.I.2.1,cy.I.2.2.drew⟩ (rh mR.I.1 wV.I.2 cy.I.2.1),(Kp _ _).drew⟩ ?_
    iterate 6 (refine PI ?_ (hy:=fun w0 hS0=>by obtain ⟨⟨⟨⟨q0,q1,q2,q3,q4,q5,q6,q7⟩,⟨x0,x1,x2,x3,x4,x5,x6,x7,x8,x9,x10,Dm⟩,hpre⟩,hH⟩,hH2⟩:=hS0; unfold rk at hpre; go_simp; try with_reducible rfl))
    refine cl (.bool true) 95 #[.agg (p.L6 gs),.agg x.row] ?_ ?_ ?_
    ·intro w0 hS0
     obtain ⟨⟨⟨⟨q0,q1,q2,q3,q4,q5,q6,q7⟩,⟨x0,x1,x2,x3,x4,x5,x6,x7,x8,x9,x10,Dm⟩,hpre⟩,hH⟩,hH2⟩:=hS0; unfold rk at hpre
     go_simp
     try with_reducible rfl
    ·intro w0 hS0
     have hq:=hS0.1.2.I;rw [show (Value.agg (p.L6 gs))= .agg p.cells by unfold af.cells; rw [mR.I.1]];refine (lk p x w0 fl.I.1.short HXS.I.1 Jf.I.1 Jf.I.2 hq.2.1 (lA hq.2.1.1 mR.I.2)).mono ?_;rintro e w2 ⟨rfl,hb2⟩;exact ⟨al HPO.I,kQ mR.I.1 mR.I.2 ⟨hq.1.below hb2,hq.2.1.below hb2,hq.2.2.trans (hb2.mono hq.2.2.size)⟩ (rh mR.I.1 wV.I.2 (hq.2.1.below hb2)),hS0.2.I.trans (hb2.mono hS0.2.I.size)⟩
    simp only [pt,sb,s0,s1]
    iterate 21 (refine PI ?_ (hy:=fun w0 hS0=>by obtain ⟨⟨⟨⟨q0,q1,q2,q3,q4,q5,q6,q7⟩,⟨x0,x1,x2,x3,x4,x5,x6,x7,x8,x9,x10,Dm⟩,hpre⟩,hH⟩,hH2⟩:=hS0; unfold rk at hpre; go_simp; try with_reducible rfl))
    refine bk (by kernel_rfl) ?_ _;intro w1 cm;have HZ:Hid (Below w.heap.size w w1):=cm.1.2.I.2.2;clear cm;go_wp2;go_ret;exact ⟨al HN.I.symm,HZ.I⟩
   have dp:decide (x.id≤y.id)=false:=decide_eq_false hle;have j6:Hid (bW (fun x:ao=>x.id) 0 (p.L8.take (j+1)) < x.id):=by show _ < _; rw [wV.I.1]; show y.id < x.id; omega
   clear hle;refine aT (fun w'=>zX w p x gs (j+1) (rk gs j y) w'∧Hid (Below wr.heap.size wr w')) (by kernel_rfl) ⟨kQ mR.I.1 mR.I.2 ⟨cy.I.1,cy.I.2.1,cy.I.2.2.drew⟩ (rh mR.I.1 wV.I.2 cy.I.2.1),(Kp _ _).drew⟩ ?_
   iterate 6 (refine PI ?_ (hy:=fun w0 hS0=>by obtain ⟨⟨⟨⟨q0,q1,q2,q3,q4,q5,q6,q7⟩,⟨x0,x1,x2,x3,x4,x5,x6,x7,x8,x9,x10,Dm⟩,hpre⟩,hH⟩,hH2⟩:=hS0; unfold rk at hpre; go_simp; try with_reducible rfl))
   refine cl (.bool true) 95 #[.agg (p.L6 gs),.agg x.row] ?_ ?_ ?_
   ·intro w0 hS0
    obtain ⟨⟨⟨⟨q0,q1,q2,q3,q4,q5,q6,q7⟩,⟨x0,x1,x2,x3,x4,x5,x6,x7,x8,x9,x10,Dm⟩,hpre⟩,hH⟩,hH2⟩:=hS0; unfold rk at hpre
    go_simp
    try with_reducible rfl
   ·intro w0 hS0
    have hq:=hS0.1.2.I;rw [show (Value.agg (p.L6 gs))= .agg p.cells by unfold af.cells; rw [mR.I.1]];refine (lk p x w0 fl.I.1.short HXS.I.1 Jf.I.1 Jf.I.2 hq.2.1 (lA hq.2.1.1 mR.I.2)).mono ?_;rintro e w2 ⟨rfl,hb2⟩;exact ⟨al HPO.I,kQ mR.I.1 mR.I.2 ⟨hq.1.below hb2,hq.2.1.below hb2,hq.2.2.trans (hb2.mono hq.2.2.size)⟩ (rh mR.I.1 wV.I.2 (hq.2.1.below hb2)),hS0.2.I.trans (hb2.mono hS0.2.I.size)⟩
   simp only [pt,sb,s0,s1]
   iterate 21 (refine PI ?_ (hy:=fun w0 hS0=>by obtain ⟨⟨⟨⟨q0,q1,q2,q3,q4,q5,q6,q7⟩,⟨x0,x1,x2,x3,x4,x5,x6,x7,x8,x9,x10,Dm⟩,hpre⟩,hH⟩,hH2⟩:=hS0; unfold rk at hpre; go_simp; try with_reducible rfl))
   refine bk (by kernel_rfl) ?_ _;intro w1 cm;have HZ:Hid (av w1 w.heap.size p∧af.At w1 p∧Below w.heap.size w w1):=cm.1.2.I;have HZW:Hid (Below wr.heap.size wr w1):=cm.2.I;clear cm;obtain ⟨z0,z1,z2,z3,z4,z5,z6,z7⟩:=HZ.I.1.cells;go_wp2_with fail;clear z0 z1 z2 z3 z4 z5 z6 z7
   go_loopw [4] (fun i wr=> ∃ n:Nat,n≤(j+1)∧i= .int .i64 n∧Hid ((∀ m y,m < n→p.L8[m]? =some y→ ¬ (y.RU=x.RU∧0 < x.RU))∧Below w1.heap.size w1 wr)) (fun i _=>(j+1) - (intOf i).toNat)
   case atStart=>exact ⟨0,Ky _,rfl,⟨fun m y hm=>absurd hm (by omega),Kp _ _⟩⟩
   case round=>
    obtain ⟨n,hn,rfl,HI⟩:=hrel
    rename World=>wi
    have iP:Hid (av wi w.heap.size p∧af.At wi p∧Below w.heap.size w wi):=⟨HZ.I.1.below HI.I.2,HZ.I.2.1.below HI.I.2,HZ.I.2.2.trans (HI.I.2.mono HZ.I.2.2.size)⟩
    obtain ⟨z0,z1,z2,z3,z4,z5,z6,z7⟩:=iP.I.1.cells;rw [mR.I.1] at z2;by_cases hnk:n < (j+1)
    ·have j0':(0:Int)≤(n:Int):=by omega
     have j1':(n:Int) < (p.L8.length:Int):=by omega
     have j2':(n:Int) < (((j+1):Nat):Int):=by omega
     obtain ⟨v,hv⟩: ∃ v,p.L8[n]? =some v:=⟨_,Kz (by omega)⟩
     obtain ⟨g1,e1,FX⟩:=cn iP.I.2.1.1 hv;obtain ⟨g2,e2,g8⟩:=cn iP.I.2.1.1 mR.I.2;rw [mR.I.1] at e1 e2;cases e1;cases e2;have d0:=FX.2.2.2.2.2.2.2.2.2.2.2;have d1:=g8.2.2.2.2.2.2.2.2.2.2.2;have HV:Hid (p.L8[n]? =some v):=hv;clear FX g8 hv;by_cases hsi:v.RU=x.RU
     ·have es:(v.RU == x.RU)=true:=by simp [hsi]
      have HSI:Hid (v.RU=x.RU):=hsi;clear hsi;by_cases hpos:0 < x.RU
      ·have dpos:decide (0 < x.RU)=true:=decide_eq_true hpos
       have HN:Hid (bK p.pure=false):=dL fun hr=>absurd ((jk p).1 hr).2.2.2.2.2 (xn mR.I.2 HV.I hnk ⟨HSI.I,hpos⟩)
       go_wp2_with fail
       go_quiet (fail)
       go_wp2;go_ret;exact ⟨al HN.I.symm,bd iP.I.2.2 _⟩
      have dpos:decide (0 < x.RU)=false:=decide_eq_false hpos;have Dx:Hid (¬ (v.RU=x.RU∧0 < x.RU)):=fun hh=>hpos hh.2
      clear hpos;go_wp2_with fail
      go_quiet (fail)
      go_wp2;go_roundw
      case rel=>exact ⟨n+1,by omega,by go_num,⟨fun m y hm hy=>by rcases QX.1 hm with h5 | h5; exact HI.I.1 m y h5 hy; subst h5; rw [HV.I] at hy; cases hy; exact Dx.I,bd HI.I.2 _⟩⟩
      case measure=>simp [intOf]; omega
     have es:(v.RU == x.RU)=false:=by simp [hsi]
     have Dx:Hid (¬ (v.RU=x.RU∧0 < x.RU)):=fun hh=>hsi hh.1
     clear hsi;go_wp2_with fail
     go_quiet (fail)
     go_wp2;go_roundw
     case rel=>exact ⟨n+1,by omega,by go_num,⟨fun m y hm hy=>by rcases QX.1 hm with h5 | h5; exact HI.I.1 m y h5 hy; subst h5; rw [HV.I] at hy; cases hy; exact Dx.I,bd HI.I.2 _⟩⟩
     case measure=>simp [intOf]; omega
    ·have j2': ¬ (n:Int) < (((j+1):Nat):Int):=by omega
     have en:n=(j+1):=by omega
     have wg:Hid (lR (p.L8.take ((j+1)+1))):=uU mR.I.2 HA.I.2.1 (fun m y hm hy=>HI.I.1 m y (by omega) hy);have HY:Hid (aw (fun x:ao=>x.id) (oQ p) 0 (p.L8.take ((j+1)+1))=true):=ed HA.I.1 mR.I.2 lN.I.1 j6.I lN.I.2;clear en;have HE:Hid (Below W1.heap.size W1 wi):=HA.I.2.2.trans ((HZW.I.trans (HI.I.2.mono HZW.I.size)).mono HA.I.2.2.size);go_wp2;go_roundw
     case rel=>exact ⟨(j+1)+1,by omega,by go_num,⟨HY.I,wg.I,HE.I⟩⟩
     case measure=>simp [intOf]; omega
  ·have i1: ¬ (k:Int) < (p.L8.length:Int):=by omega
   have ek:p.L8.take k=p.L8:=KF (by omega);have HY:Hid (bK p.pure=true):=fP ((jk p).2 ⟨H1.I,H2.I,H3.I,H4.I,by have:=HA.I.1; rwa [ek] at this,by have:=HA.I.2.1; rwa [ek] at this⟩);clear ek;go_wp2;go_ret;exact ⟨al HY.I.symm,cy.I.2.2⟩
end
end Go.Proofs.YteidkehoekbcaaaGreat
