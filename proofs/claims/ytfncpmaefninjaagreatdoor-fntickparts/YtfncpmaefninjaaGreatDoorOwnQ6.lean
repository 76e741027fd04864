/- What the proof leans on, part 6. -/
import Derived.Test.YtfncpmaefninjaaGreatDoorOwnQ3
import Derived.Test.YtfncpmaefninjaaGreatDoorOwnQ4
set_option linter.all false
set_option maxRecDepth 100000
set_option maxHeartbeats 8000000
open Go.Proofs.Tryz
open Go renaming World->w_,Value->v_,Calls->k_,Addr->d_
open Go.Ending renaming returned->r_
open Go.IntKind renaming i64->j_
open Go.Obj renaming cells->c_
open Go.RowKit renaming Below->B_,Hid->bN
open Go.Value renaming int->i_,slice->s_,bool->b_,string->t_,agg->a_,pointer->p_,tuple->u_
open Option renaming some->o_,none->n_
open Go renaming wp_at_succ->Kd,wp_at_zero->Kc
open Go.Proofs.Tryz renaming prog->J3,underlying3->QY
open Go.RowKit renaming run_makeMap->P4
open Option renaming map_some->J9

open Go.RowKit
namespace Go.Proofs.YtfncpmaefninjaaGreatDoor
section
open Go.RowKit Go.Maps Go.Sort Go.Shelf
def wB (mb:Option Nat) (W:w_):k_ J3 136 #[.map mb] W fun e w'=>e=r_ (.func (.func 177) #[] #[p_ (o_ ⟨W.heap.size,0,n_⟩)])/\w'=W.alloc (c_ #[.map mb] 67):=
 (LO (n:=5)).1 (RC Tryz.keysProc Fence.wide 5 trivial rfl mb W)
def qx (Bm b:Nat) (m:df) (W:w_) (hBm:Bm < W.heap.size) (hc:W.cell? ⟨Bm,0,n_⟩=o_ (.map (o_ b))) (h:cF W b m) (hm:m.length<=1048576):
  k_ J3 135 #[.func (.func 177) #[] #[p_ (o_ ⟨Bm,0,n_⟩)]] W fun e w'=> ∃ v:v_,e=r_ v/\w'.ownsRow W.heap.size 2 1 v m.length (m.map fun p=> i_ j_ p.1)/\B_ W.heap.size W w':=by
 have hsz:Maps.size (gA m)=m.length:=size_map m;have hseq:SeqGives Fence.wide 2 J3 177 #[p_ (o_ ⟨Bm,0,n_⟩)] encZ (fun ss=>ss.Perm (intKeys (gA m))) (Maps.size (gA m)) W:=
  RD (ρ:=Tryz.keysProc_ren) { Tryz.keysProc with } Fence.wide _ trivial rfl zo Bm b m.length (gA m) W hBm hc h.1
 have cS:=RE Tryz.sortedA Fence.wide 5 trivial trivial trivial trivial rfl zo (Tryz.sortsA _) (LP func176 Zcq rfl) 177 #[p_ (o_ ⟨Bm,0,n_⟩)] trivial (LP func177 Zcq rfl) _ _ ZcJ Zc2 _ hseq
 exact mi
def sQ:(Tryz.prog.info? 64).map (fun i=>(i.zero,i.size,i.bytes))=o_ (o_ (p_ n_),1,8):=by kernel_rfl
def mq (Me:Int) (b:Nat) (m:df) (w:w_) (h:cF w b m) (hm:m.length<=1048576) (hwf: ∀ p∈m,(Lit.int j_ p.1).wf=true):
  k_ J3 101 #[a_ #[i_ j_ Me,.map (o_ b)]] w fun e w'=> ∃ a cap,e=r_ (s_ a m.length cap)/\w'.ownsRow w.heap.size 64 1 (s_ a m.length cap) m.length (m.map fun p=>dt p.2)/\B_ w.heap.size w w':=by
 obtain ⟨i0,hi,e0⟩:=Kw.1 sQ;simp only [Kx] at e0;have HI:bN (_/\_/\_/\_):=⟨hi,e0⟩
 have HM:bN (cF w b m/\ ∀ p∈m,(Lit.int j_ p.1).wf=true):=⟨h,hwf⟩
 have hbl:b < w.heap.size:=h.lt;clear hi e0 h hwf
 go_enter func101,ntmps101
 go_wp2_with (go_at_call 136; refine (wB _ _).mono ?_; rintro e w' ⟨rfl,rfl⟩);refine (qx (w.heap.size+1) b m _ zw zw (HM.I.1.below (((Kp _ w).alloc (Ki _) _).alloc zw _)) hm).mono ?_;rintro e w2 ⟨v,rfl,hown,hb2⟩;have cy:bN (B_ w.heap.size w w2):=(((Kp _ w).alloc (Ki _) _).alloc zw _).trans (hb2.mono Zcr);have HS:bN (w2.heap[w.heap.size]? =o_ (c_ #[i_ j_ Me,.map (o_ b)] 69)):=(hb2.block _ Zcr).trans ((((Kp _ _).alloc (Ki _) _).block _ zw).trans (Kj _ _));obtain ⟨a,cap,hv,hrow⟩:=cr hown;have HR:bN (Row w2 a (m.map fun p=> i_ j_ p.1)):=hrow;rw [hv];clear hv hown hrow hb2 v;go_wp2_with fail;have Zc:=underlying67;have YC:=underlying130;have anF:=oD
 go_loopw [3,11] (fun l i wr=> ∃ k:Nat,k<=m.length/\i=i_ j_ k/\ ∃ a' cap',l=s_ a' k cap'/\bN (anZ 64 w2 m k a' cap' wr)) (fun _ i _=>m.length - (intOf i).toNat)
 case atStart=>exact ⟨0,Ky _,rfl,n_,0,rfl,⟨Ke _ _ _ _,Kp _ _⟩⟩
 case round=>
  exact ab
end
section
open Go.Maps
structure kX (w W:w_) (o:Nat) (q:ol) (lp:List (ao × Nat)) (ms me mb mf:df):Prop where
 opn:fa W o q
 eh:Shelf aX (fun x:ao=>x.id) 41 W 0 q.bp lp
 ms:cF W q.bs ms
 me:cF W q.be me
 mb:cF W q.bb mb
 mf:cF W q.bf mf
 cd:B_ w.heap.size w W
def kX.below {w W W':w_} {o:Nat} {q:ol} {lp:List (ao × Nat)} {ms me mb mf:df} (h:kX w W o q lp ms me mb mf) (hb:B_ W.heap.size W W'):kX w W' o q lp ms me mb mf:=
 ⟨h.opn.below hb,h.eh.below hb,h.ms.below hb,h.me.below hb,h.mb.below hb,h.mf.below hb,h.cd.trans (hb.mono h.cd.size)⟩
def kX.has {w W:w_} {o:Nat} {q:ol} {lp:List (ao × Nat)} {ms me mb mf:df} (h:kX w W o q lp ms me mb mf) {p:ao × Nat} (hp:p∈lp):fu W W o p.2 q p.1 ms me mb mf:=
 ⟨h.opn,h.eh.box p hp,h.ms,h.me,h.mb,h.mf,Kp _ _⟩
structure ao.Wf (x:ao):Prop where
 id:(Lit.int j_ x.id).wf=true
 on:(Lit.int j_ x.on).wf=true
 RU:(Lit.int j_ x.RU).wf=true
def DE {lp:List (ao × Nat)} (h: ∀ p∈lp,p.1.Wf): ∀ p∈RW (fun x:ao=>x.id) lp,(Lit.int j_ p.1).wf=true:=fun p hp=>by
 obtain ⟨r,hr,rfl⟩:=Lr.1 hp;exact (h r hr).id
def Bh (o:Nat) (q:ol) (lp:List (ao × Nat)) (ms me mb mf:df) (w:w_) (h:kX w w o q lp ms me mb mf) (hl:lp.length<=1048576) (hwf: ∀ p∈lp,p.1.Wf):
  k_ J3 57 #[p_ (o_ ⟨o,0,n_⟩)] w fun e w'=>e=r_ (b_ (lp.all fun p=>fw ms me mb mf p.1))/\B_ w.heap.size w w':=by
 have H:bN (kX w w o q lp ms me mb mf/\ ∀ p∈lp,p.1.Wf):=⟨h,hwf⟩
 have c2:w.cell? ⟨o,2,n_⟩=o_ (i_ j_ 6):=h.opn.cell 2;have c3:w.cell? ⟨o,3,n_⟩=o_ (.map (o_ q.bp)):=h.opn.cell 3;have hkl:(RW (fun x:ao=>x.id) lp).length=lp.length:=bZ lp;have HK:bN ((RW (fun x:ao=>x.id) lp).length=lp.length):=hkl;clear h hwf hkl
 go_enter func57,ntmps57
 go_wp2_with fail;refine (mq 6 q.bp (RW (fun x:ao=>x.id) lp) w H.I.1.eh.map ZcG (DE H.I.2)).mono ?_;rintro e w2 ⟨a,cap,rfl,hown,hb2⟩;obtain ⟨a',cap',hv,hrow⟩:=cr hown;cases hv;have HR:bN (Row w2 a ((RW (fun x:ao=>x.id) lp).map fun p=>dt p.2)):=hrow;have HO:bN (kX w w2 o q lp ms me mb mf):=H.I.1.below hb2;rw [HK.I];clear hown hrow hb2 c2 c3;go_wp2_with fail
 go_loopw [11] (fun i wr=> ∃ k:Nat,k<=lp.length/\i=i_ j_ k/\bN (((lp.take k).all fun p=>fw ms me mb mf p.1)=true/\B_ w2.heap.size w2 wr)) (fun i _=>lp.length - (intOf i).toNat)
 case atStart=>exact ⟨0,Ky _,rfl,⟨by simp,Kp _ _⟩⟩
 case round=>
  obtain ⟨k,hk,rfl,HA⟩:=hrel;have HO2:bN (kX w wr o q lp ms me mb mf):=HO.I.below HA.I.2;by_cases hlt:k < lp.length
  .have i0:(0:Int)<=(k:Int):=zo
   have i1:(k:Int) < (lp.length:Int):=zo
   obtain ⟨p,hp⟩: ∃ p,lp[k]? =o_ p:=⟨_,Kz hlt⟩
   have hpm:=KA hp;obtain ⟨g,ha,hc⟩:=(HR.I.below HA.I.2) k (dt p.2) ZcK;subst ha;unfold dt at hc;have HP:bN (lp[k]? =o_ p/\p∈lp):=⟨hp,hpm⟩
   clear hp hpm;go_wp2_with fail;refine (Ak o p.2 q p.1 ms me mb mf wr (HO2.I.has HP.I.2) (H.I.2 p HP.I.2).on).mono ?_;rintro e w4 ⟨rfl,hb4⟩;have HB4:bN (B_ w2.heap.size w2 w4):=HA.I.2.trans (hb4.mono HA.I.2.size);have HF4:bN (B_ w.heap.size w w4):=HO2.I.cd.trans (hb4.mono HO2.I.cd.size);clear hb4;cases FN:fw ms me mb mf p.1 with
   | true=>
    have HY:bN (((lp.take (k+1)).all fun p=>fw ms me mb mf p.1)=true):=by
     show _=true
     rw [cj HP.I.1,List.all_append,HA.I.1];simp [FN]
    clear FN;go_wp2;go_roundw
    case rel=>exact ⟨k+1,zo,by go_num,⟨HY.I,HB4.I⟩⟩
    case measure=>simp [intOf]; omega
   | false=>
    have HN:bN ((lp.all fun p=>fw ms me mb mf p.1)=false):=by
     show _=false
     rw [List.all_eq_false];exact ⟨p,HP.I.2,by simp [FN]⟩
    clear FN;go_wp2;go_ret;exact ⟨al HN.I.symm,HF4.I⟩
  .have i1: ¬ (k:Int) < (lp.length:Int):=zo
   have HT:bN ((lp.all fun p=>fw ms me mb mf p.1)=true):=by have:=HA.I.1; rwa [KF zo] at this
   go_wp2;go_ret;exact ⟨al HT.I.symm,HO2.I.cd⟩
end
section
open Go.Maps
attribute [local go_sem ↓] Kc Kd
def DV (w:World):(zeroValue 3).run J3 w= .ok (.int .i64 0) w:=by kernel_rfl
def hO (w:World) (b:Nat) (L:List Int):Prop:= ∃ D:DataW Unit,w.ownsMap J3 2 (plainElem J3 3) b L.length D/\IsMap D/\ ∀ z:Int,D.atKey (.int .i64 z) (.lit (.int .i64 0))= .lit (.int .i64 (if z∈L then 1 else 0))
def hO.none {w:World} {b:Nat} (hb:w.heap[b]? =some (.map #[] 0)):hO w b [] :=
 ⟨.map [],⟨#[],0,hb,⟨by simp,MapKept.stamped_empty 0,by simp⟩,by simp,rfl⟩,isMap_empty,fun z=>by simp [DataW.atKey]⟩
def hO.lt {w:World} {b:Nat} {L:List Int} (h:hO w b L):b < w.heap.size:=by obtain ⟨D,h,_⟩:=h; exact h.lt
def hO.same {w w':World} {b:Nat} {L:List Int} (h:hO w b L) (hs:w'.heap[b]? =w.heap[b]?):hO w' b L:=by
 obtain ⟨D,⟨es,clock,hb,r⟩,h2⟩:=h;exact ⟨D,⟨es,clock,hs.trans hb,r⟩,h2⟩
def hO.look {w:World} {b:Nat} {L:List Int} (h:hO w b L) {z:Int} (hz:(Lit.int .i64 z).wf=true):(Instr.lookup 166 (.map (some b)) (.int .i64 z) false).run J3 w= .ok (.int .i64 (if z∈L then 1 else 0)) w:=by
 obtain ⟨D,hown,_,hat⟩:=h;obtain ⟨c,hrun,hc,_⟩:=hown.lookup_int jb Tryz.underlying166 QY (DV w) (vX hz);rw [hat z] at hc;simp only [QZ,Q0,true_and] at hc;rw [hrun,hc]
def hO.put {w:World} {b:Nat} {L:List Int} (h:hO w b L) (hl:L.length<=1048576) {z:Int} (hz:(Lit.int .i64 z).wf=true) (v:Int) (hv:v=(if z∈L then 1 else 0)+1):
  ∃ w',(Instr.mapUpdate 166 (.map (some b)) (.int .i64 z) (.int .i64 v)).run J3 w= .ok () w'/\w.grownBy w' (some b)/\w'.heap.size=w.heap.size/\
   (∀ W:World,W.heap=w'.heap->(Instr.lookup 166 (.map (some b)) (.int .i64 z) false).run J3 W= .ok (.int .i64 v) W)/\(z∉L->hO w' b (L ++ [z])):=by
 obtain ⟨D,hown,hm,hat⟩:=h;have hvw:(Lit.int .i64 v).wf=true:=by
  subst hv
  split <;> decide
 obtain ⟨w',hrun,ho,ht⟩:=hown.store jb Tryz.underlying166 (Q5 hl (by decide)) (vX hz) (plainElem_int (H:=Unit) QY hvw);refine ⟨w',hrun,ht.grown,?_,fun W hW=> ?_,fun hn=>⟨_,by rw [Lf]; exact ho,hm.put _ _,fun y=> ?_⟩⟩
 .obtain ⟨es,clock,es',clock',hb,rfl⟩:=ht
  simp [ChangeMaps.setBlock]
 .have Hw:W.ownsMap J3 2 (plainElem J3 3) b (L.length+1) (D.put (.int .i64 z) (.lit (.int .i64 v))):=by
   obtain ⟨es,clock,hb,r⟩:=ho;exact ⟨es,clock,by rw [hW]; exact hb,r⟩
  obtain ⟨c,hr,hc,_⟩:=Hw.lookup_int jb Tryz.underlying166 QY (DV W) (vX hz);rw [atKey_put_same hm (jb.key (vX hz))] at hc;simp only [QZ,Q0,true_and] at hc;rw [hr,hc]
 .by_cases hy:y=z
  .subst hy
   rw [atKey_put_same hm (jb.key (vX hz))];simp [hv,hn]
  .rw [atKey_put_other (fun e=>hy (by simpa using e)),hat y]
   simp [hy]
def Cf (l:List (ao × Nat)):List Int:=Hu (l.map fun p=>p.1.toaD)
def km (next:Int) (l:List (ao × Nat)):Prop:=nQ next (l.map fun p=>p.1.toaD)
def we (l:List (ao × Nat)) (p:ao × Nat):Cf (l ++ [p])=Cf l ++ (if p.1.Md=0 then [] else [p.1.RU]):=by
 simp only [Cf,Hu,Kl,QN,Lt,QV,LN,List.filter_nil];by_cases h:p.1.Md=0 <;> simp [h]
def vx {next:Int} {l:List (ao × Nat)} {p:ao × Nat} (h:km next l) (hp: ¬ p.1.Md=0->1<=p.1.RU/\p.1.RU < next/\p.1.RU∉Cf l):km next (l ++ [p]):=by
 refine ⟨fun x hx=> ?_,?_⟩
 .rw [Kl] at hx
  rcases Kg.1 hx with hx | hx
  .exact h.1 x hx
  .simp only [Lt,QV,KB] at hx
   subst hx;exact fun h0=>⟨(hp h0).1,(hp h0).2.1⟩
 .have e:=we l p
  unfold Cf at e;rw [e];by_cases h0:p.1.Md=0
  .simp only [h0,if_true,QO]; exact h.2
  .simp only [h0,if_false]
   refine Kf.2 ⟨h.2,by simp,fun a ha b hb=> ?_⟩;simp only [KB] at hb;subst hb;intro e2;subst e2;exact (hp h0).2.2 ha
def rU {next:Int} {l:List (ao × Nat)} {k:Nat} {p:ao × Nat} (hp:l[k]? =some p) (h0: ¬ p.1.Md=0) (hb: ¬ (1<=p.1.RU/\p.1.RU < next/\p.1.RU∉Cf (l.take k))): ¬ km next l:=fun h=>by
 have hm:p.1.toaD∈l.map fun p=>p.1.toaD:=Lr.2 ⟨p,KA hp,rfl⟩
 have h1:=h.1 _ hm h0;refine hb ⟨h1.1,h1.2,fun hmem=> ?_⟩;have e:l=l.take k ++ p :: l.drop (k+1):=kL hp;have h2:=h.2;rw [e] at h2;simp only [Hu,Kl,Lt,QN,LN] at h2;have h0':(!decide (p.1.toaD.Md=0))=true:=by simp [h0]
 rw [if_pos h0',Lt] at h2;exact (Kf.1 h2).2.2 p.1.RU hmem p.1.RU zw rfl
def A6 (w:World) (q:ol) (lp:List (ao × Nat)) (e:Ending) (w':World):Prop:= ∃ ok:Bool,e= .returned (.bool ok)/\(ok=true↔km q.next lp)/\Below w.heap.size w w'
def kO {w w':World} {q:ol} {lp:List (ao × Nat)} (h: ¬ km q.next lp) (hb:Below w.heap.size w w'):A6 w q lp (.returned (.bool false)) w':=⟨false,rfl,⟨(fun h=>by cases h),fun h'=>absurd h' h⟩,hb⟩
structure rO (w w2 wr:World) (o:Nat) (q:ol) (lp:List (ao × Nat)) (L:List Int):Prop where
 taken:hO wr w.heap.size L
 grown:w2.grownBy wr (some w.heap.size)
def rO.block {w w2 wr:World} {o:Nat} {q:ol} {lp:List (ao × Nat)} {L:List Int} (h:rO w w2 wr o q lp L) {g:Nat} (hg:g < w2.heap.size) (hne: ¬ g=w.heap.size):wr.heap[g]? =w2.heap[g]? :=h.grown.block g hg (fun e=>hne (KC e))
def BI (o:Nat) (q:ol) (lp:List (ao × Nat)) (ms me mb mf:df) (w:World) (h:kX w w o q lp ms me mb mf) (hl:lp.length<=1048576) (hwf: ∀ p∈lp,p.1.Wf):
  Calls J3 56 #[.pointer (some ⟨o,0,none⟩)] w fun e w'=>A6 w q lp e w':=by
 have hmk:=P4 (P:=J3) 166;have H:bN (kX w w o q lp ms me mb mf/\ ∀ p∈lp,p.1.Wf):=⟨h,hwf⟩
 have p7:o < w.heap.size:=(J2.1 h.opn).1;have c2:w.cell? ⟨o,2,none⟩=some (.int .i64 6):=h.opn.cell 2;have c3:w.cell? ⟨o,3,none⟩=some (.map (some q.bp)):=h.opn.cell 3;have HK:bN ((RW (fun x:ao=>x.id) lp).length=lp.length):=bZ lp;clear h hwf
 go_enter Tryz.func56,Tryz.ntmps56
 go_wp2_with fail;refine (mq 6 q.bp (RW (fun x:ao=>x.id) lp) (w.alloc (.map #[] 0)) (H.I.1.eh.map.below ((Kp _ w).alloc (Ki _) _)) ZcG (DE H.I.2)).mono ?_;rintro e w2 ⟨a,cap,rfl,hown,hb2⟩;obtain ⟨a',cap',hv,hrow⟩:=cr hown;cases hv;have HR:bN (Row w2 a ((RW (fun x:ao=>x.id) lp).map fun p=>dt p.2)):=hrow;have HRB:bN (∀ g,a=some ⟨g,0,none⟩->w.heap.size+1<=g/\g < w2.heap.size):=fun g hg=>by
  subst hg
  have:=hown.lt g rfl
  simpa using this
 have cy:bN (Below w.heap.size w w2):=((Kp _ w).alloc (Ki _) _).trans (hb2.mono zw);have Hz:bN (hO w2 w.heap.size []):=hO.none ((hb2.block _ zw).trans (Kj _ _));rw [HK.I];clear hown hrow hb2 c2 c3 hmk;go_wp2_with fail
 go_loopw [13] (fun i wr=> ∃ k:Nat,k<=lp.length/\i= .int .i64 k/\bN (km q.next (lp.take k)/\rO w w2 wr o q lp (Cf (lp.take k)))) (fun i _=>lp.length - (intOf i).toNat)
 case atStart=>exact ⟨0,Ky _,rfl,⟨⟨(fun x hx=>by simp at hx),by simp [Hu]⟩,⟨by simpa [Cf,Hu] using Hz.I,⟨rfl,rfl,rfl,Ki _,fun _ _ _=>rfl⟩⟩⟩⟩
 case round=>
  obtain ⟨k,hk,rfl,HA⟩:=hrel;have Ez:bN (Below w.heap.size w wr):=cy.I.grown HA.I.2.grown cy.I.size (fun k hk=>by cases hk; exact Ki _);by_cases hlt:k < lp.length
  .have i0:(0:Int)<=(k:Int):=zo
   have i1:(k:Int) < (lp.length:Int):=zo
   obtain ⟨p,hp⟩: ∃ p,lp[k]? =some p:=⟨_,Kz hlt⟩
   have hpm:=KA hp;have hrw:=HR.I k (dt p.2) ZcK;obtain ⟨g,ha,hc0⟩:=hrw;have hgb:=HRB.I g ha;have hc:wr.cell? ⟨g,k,none⟩=some (.pointer (some ⟨p.2,0,none⟩)):=(J1 (w:=w2) (a:=⟨g,k,none⟩) (HA.I.2.block (g:=g) hgb.2 (fun e=>by have h1:=hgb.1; have e':g=w.heap.size:=e; omega))).trans hc0;subst ha;have lD:wr.heap[p.2]? =some (.cells (aX p.1) 41 (0,0)):=(Ez.I.block _ (J2.1 (H.I.1.eh.box p hpm)).1).trans (H.I.1.eh.box p hpm);have hob:fa wr o q:=(Ez.I.block _ p7).trans H.I.1.opn;have HP:bN (lp[k]? =some p/\p∈lp):=⟨hp,hpm⟩
   have HW:bN ((Lit.int .i64 p.1.RU).wf=true):=(H.I.2 p hpm).RU;have HX:bN (wr.heap[p.2]? =some (.cells (aX p.1) 41 (0,0))/\fa wr o q):=⟨lD,hob⟩
   have k3:=(bo lD).2.2.2.1;have k11:=(bo lD).2.2.2.2.2.2.2.2.2.2.2;have hls:(Cf (lp.take k)).length<=1048576:=by
    have h1:(Cf (lp.take k)).length<=(lp.take k).length:=by
     simp only [Cf,Hu,KG];exact LG (Qq _ _) zw
    rw [Lk] at h1;omega
   clear hp hpm hc0 hgb lD hob;by_cases h0:p.1.Md=0
   .have HY:bN (km q.next (lp.take (k+1))/\rO w w2 wr o q lp (Cf (lp.take (k+1)))):=by
     rw [cj HP.I.1];refine ⟨vx HA.I.1 (fun h=>absurd h0 h),?_⟩;rw [we,if_pos h0,QO];exact HA.I.2
    have e0:(p.1.Md == 0)=true:=by simp [h0]
    clear h0;go_wp2;go_roundw
    case rel=>exact ⟨k+1,zo,by go_num,HY⟩
    case measure=>simp [intOf]; omega
   .have e0:(p.1.Md == 0)=false:=by simp [h0]
    have H0:bN (¬ p.1.Md=0):=h0;clear h0;have hlk:=HA.I.2.taken.look HW.I;by_cases hz:p.1.RU∈Cf (lp.take k)
    .rw [if_pos hz] at hlk
     obtain ⟨w5,hput,wY,aaX,FJ,-⟩:=HA.I.2.taken.put hls HW.I 2 (by rw [if_pos hz]; rfl);have HN:bN (¬ km q.next lp):=rU HP.I.1 H0.I (fun hh=>hh.2.2 hz);have Dk:bN (Below w.heap.size w w5):=Ez.I.grown wY Ez.I.size (fun k hk=>by cases hk; exact Ki _);have hx5:w5.heap[p.2]? =some (.cells (aX p.1) 41 (0,0)):=(Dk.I.block _ (J2.1 (H.I.1.eh.box p HP.I.2)).1).trans (H.I.1.eh.box p HP.I.2);have oe:fa w5 o q:=(Dk.I.block _ p7).trans H.I.1.opn;have f11:=(bo hx5).2.2.2.2.2.2.2.2.2.2.2;have f1:w5.cell? ⟨o,1,none⟩=some (.int .i64 q.next):=oe.cell 1;have rL:=FJ w5.drew rfl;clear FJ wY aaX hx5 oe hz;by_cases hA:p.1.RU < 1
     .have dA:decide (p.1.RU < 1)=true:=decide_eq_true hA
      exact Zcd
     have dA:decide (p.1.RU < 1)=false:=decide_eq_false hA;by_cases hB:q.next<=p.1.RU
     .have dB:decide (q.next<=p.1.RU)=true:=decide_eq_true hB
      exact Zci
     have dB:decide (q.next<=p.1.RU)=false:=decide_eq_false hB;clear hA hB;go_wp2_with fail;refine aT (fun w'=>w'=w5.drew) Zcq rfl ?_
     iterate 25 (refine agj ?_)
     refine bk Zcq ?_ _;intro w1 cm;subst cm;go_wp2;go_ret;exact kO HN.I Dk.I.drew
    .rw [if_neg hz] at hlk
     obtain ⟨w5,hput,wY,aaX,FJ,htk⟩:=HA.I.2.taken.put hls HW.I 1 (by rw [if_neg hz]; rfl);have Dk:bN (Below w.heap.size w w5):=Ez.I.grown wY Ez.I.size (fun k hk=>by cases hk; exact Ki _);have EY:bN (rO w w2 w5 o q lp (Cf (lp.take k) ++ [p.1.RU])):=⟨htk hz,⟨wY.os.trans HA.I.2.grown.os,wY.tape.trans HA.I.2.grown.tape,wY.output.trans HA.I.2.grown.output,LG HA.I.2.grown.size wY.size,fun k hk hne=>(wY.block k (Kn hk HA.I.2.grown.size) hne).trans (HA.I.2.grown.block k hk hne)⟩⟩
     have HZ:bN (¬ p.1.RU∈Cf (lp.take k)):=hz;have hx5:w5.heap[p.2]? =some (.cells (aX p.1) 41 (0,0)):=(Dk.I.block _ (J2.1 (H.I.1.eh.box p HP.I.2)).1).trans (H.I.1.eh.box p HP.I.2);have oe:fa w5 o q:=(Dk.I.block _ p7).trans H.I.1.opn;have f11:=(bo hx5).2.2.2.2.2.2.2.2.2.2.2;have f1:w5.cell? ⟨o,1,none⟩=some (.int .i64 q.next):=oe.cell 1;have rL:=FJ w5.drew rfl;clear FJ wY aaX hx5 oe hz htk;by_cases hA:p.1.RU < 1
     .have dA:decide (p.1.RU < 1)=true:=decide_eq_true hA
      have HN:bN (¬ km q.next lp):=rU HP.I.1 H0.I (fun hh=>by have:=hh.1; omega);exact Zcd
     have dA:decide (p.1.RU < 1)=false:=decide_eq_false hA;by_cases hB:q.next<=p.1.RU
     .have dB:decide (q.next<=p.1.RU)=true:=decide_eq_true hB
      have HN:bN (¬ km q.next lp):=rU HP.I.1 H0.I (fun hh=>by have:=hh.2.1; omega);exact Zci
     have dB:decide (q.next<=p.1.RU)=false:=decide_eq_false hB;have HY:bN (km q.next (lp.take (k+1))/\rO w w2 w5 o q lp (Cf (lp.take (k+1)))):=by
      rw [cj HP.I.1];refine ⟨vx HA.I.1 (fun _=>⟨zo,zo,HZ.I⟩),?_⟩;rw [we,if_neg H0.I];exact EY.I
     clear hA hB;go_wp2_with fail;refine aT (fun w'=>w'=w5.drew) Zcq rfl ?_
     iterate 25 (refine agj ?_)
     refine bk Zcq ?_ _;intro w1 cm;subst cm;go_wp2;go_roundw
     case rel=>exact ⟨k+1,zo,by go_num,⟨HY.I.1,⟨HY.I.2.taken.same rfl,⟨HY.I.2.grown.os,HY.I.2.grown.tape,HY.I.2.grown.output,HY.I.2.grown.size,HY.I.2.grown.block⟩⟩⟩⟩
     case measure=>simp [intOf]; omega
  .have i1: ¬ (k:Int) < (lp.length:Int):=zo
   have HT:bN (km q.next lp):=by have:=HA.I.1; rwa [KF zo] at this
   go_wp2;go_ret;exact ⟨true,rfl,⟨fun _=>HT.I,fun _=>rfl⟩,Ez.I⟩
end
section
attribute [local go_sem ↓] Kc Kd
def vY (w:w_) (b:Nat) (m:df) (Me:Int) (x:ao) (w':w_):Prop:=(w'.cell? ⟨w.heap.size,0,n_⟩=o_ (i_ j_ Me)/\w'.cell? ⟨w.heap.size,1,n_⟩=o_ (.map (o_ b))/\(∀ ty,(Builtin.len_ #[67] ty #[.map (o_ b)]).run J3 w'= .ok (i_ j_ (m.length:Int)) w')/\w'.cell? ⟨w.heap.size+1,0,n_⟩=o_ (i_ j_ x.id)/\w'.cell? ⟨w.heap.size+1,1,n_⟩=o_ (i_ j_ x.RX)/\w'.cell? ⟨w.heap.size+1,2,n_⟩=o_ (s_ x.aY x.prog.length x.bH)/\w'.cell? ⟨w.heap.size+1,3,n_⟩=o_ (i_ j_ x.Md)/\w'.cell? ⟨w.heap.size+1,4,n_⟩=o_ (i_ j_ x.pc)/\w'.cell? ⟨w.heap.size+1,5,n_⟩=o_ (i_ j_ x.left)/\w'.cell? ⟨w.heap.size+1,6,n_⟩=o_ (i_ j_ x.Mg)/\w'.cell? ⟨w.heap.size+1,7,n_⟩=o_ (i_ j_ x.on)/\w'.cell? ⟨w.heap.size+1,8,n_⟩=o_ (t_ x.held)/\w'.cell? ⟨w.heap.size+1,9,n_⟩=o_ (t_ x.got)/\w'.cell? ⟨w.heap.size+1,10,n_⟩=o_ (i_ j_ x.code)/\w'.cell? ⟨w.heap.size+1,11,n_⟩=o_ (i_ j_ x.RU))/\bN (fe w w' w.heap.size (w.heap.size+1) b m Me (aX x) 41 69)/\bN (eL w' x)
def iU {w w':w_} {b:Nat} {m:df} {Me:Int} {x:ao} (h:fe w w' w.heap.size (w.heap.size+1) b m Me (aX x) 41 69) (hf:eL w' x):vY w b m Me x w':=
 ⟨⟨h.cells.1,h.cells.2,fun ty=>h.mp.len underlying67 ty,bo h.bx⟩,h,hf⟩
def Bp (Me:Int) (b:Nat) (m:df) (x:ao) (w:w_) (h:cF w b m) (hw:(Lit.int j_ x.id).wf=true) (hm:m.length<=1048576) (hf:eL w x):
  k_ J3 95 #[a_ #[i_ j_ Me,.map (o_ b)],a_ (aX x)] w fun e w'=>dD w b m (iI Me m x.id (cH x.toaD)) x.id (aX x) 41 e w':=by
 have HF:bN (fe w ((w.alloc (c_ #[i_ j_ Me,.map (o_ b)] 69)).alloc (c_ (aX x) 41)) w.heap.size (w.heap.size+1) b m Me (aX x) 41 69):=fe.start w h Me _ _ _;have HW:bN ((Lit.int j_ x.id).wf=true/\ ¬ w.heap.size+1=b/\m.length<=1048576):=⟨hw,by have:=h.lt; omega,hm⟩
 have HI:bN (eL ((w.alloc (c_ #[i_ j_ Me,.map (o_ b)] 69)).alloc (c_ (aX x) 41)) x):=hf.below ((((Kp _ w).alloc (Ki _) _)).alloc zw _);have hmn:=ob;have hmr:=uB;obtain ⟨s0,s1⟩:=HF.I.cells;obtain ⟨c0,c1,c2,c3,c4,c5,c6,c7,c8,c9,qF,pe⟩:=bo HF.I.bx;clear h hw hf hm;unfold aX at *
 go_enter func95,ntmps95
 go_wp2_with fail;clear s0 s1 c0 c1 c2 c3 c4 c5 c6 c7 c8 c9 qF pe;obtain ⟨vA,hA⟩: ∃ v,(cz m x.id).isSome=v:=⟨_,rfl⟩
 obtain ⟨vB,F6⟩: ∃ v,decide (Me<=(m.length:Int))=v:=⟨_,rfl⟩
 obtain ⟨vC,hC⟩: ∃ v,cv x.id 1 1000=v:=⟨_,rfl⟩
 obtain ⟨vD,hD⟩: ∃ v,cH x.toaD=v:=⟨_,rfl⟩
 have HL:bN (iI Me m x.id (cH x.toaD)=(!vA && !vB && vC && vD)/\(vA=false->cz m x.id=n_)):=⟨pi hA F6 hC hD,fun e=>PX.1 (PY.1 (hA.trans e))⟩
 have HA:bN (Ending.returned (b_ (cz m x.id).isSome)=r_ (b_ vA)):=al hA;have HC:bN (Ending.returned (b_ (cv x.id 1 1000))=r_ (b_ vC)):=al hC;have HD:bN (Ending.returned (b_ (cH x.toaD))=r_ (b_ vD)):=al hD;clear hA hC hD;refine aT (vY w b m Me x) Zcq (iU HF.I.drew (HI.I.below (Kp _ _).drew)) ?_
 iterate 3 (refine agj ?_)
 (refine cl (i_ j_ x.id) 235 #[a_ x.row] ?_ ?_ ?_; (intro w0 hS0; obtain ⟨⟨q0,q1,q2,q3,q4,q5,q6,q7,q8,q9,kY,kV,lB,lz,Ch⟩,hH⟩:=hS0; go_simp; try with_reducible rfl); (intro w0 hS0; refine (iK x w0).mono ?_; rintro e w2 ⟨rfl,hb2⟩; exact ⟨rfl,iU (hS0.2.1.I.below hb2) (hS0.2.2.I.below hb2)⟩); simp only [pt,sb,s0,s1])
 (refine cl (b_ vA) 128 #[a_ #[i_ j_ Me,.map (o_ b)],i_ j_ x.id] ?_ ?_ ?_; (intro w0 hS0; obtain ⟨⟨q0,q1,q2,q3,q4,q5,q6,q7,q8,q9,kY,kV,lB,lz,Ch⟩,hH⟩:=hS0; go_simp; try with_reducible rfl); (intro w0 hS0; refine (BP Me b m x.id w0 hS0.2.1.I.mp HW.I.1).mono ?_; rintro e w2 ⟨rfl,hb2⟩; exact ⟨HA.I,iU (hS0.2.1.I.below hb2) (hS0.2.2.I.below hb2)⟩); simp only [pt,sb,s0,s1])
 (refine agj ?_)
 rcases vA.eq_false_or_eq_true with rfl | rfl
 focus iterate 6 (refine nl ?_; simp only [pt,sb,s0,s1])
 rotate_left
 focus iterate 6 (refine agj ?_)
 all_goals iterate 2 (refine agj ?_)
 rcases vB.eq_false_or_eq_true with rfl | rfl
 focus iterate 5 (refine nl ?_; simp only [pt,sb,s0,s1])
 rotate_left
 focus
  iterate 2 (refine agj ?_)
  (refine cl (i_ j_ x.id) 235 #[a_ x.row] ?_ ?_ ?_; (intro w0 hS0; obtain ⟨⟨q0,q1,q2,q3,q4,q5,q6,q7,q8,q9,kY,kV,lB,lz,Ch⟩,hH⟩:=hS0; go_simp; try with_reducible rfl); (intro w0 hS0; refine (iK x w0).mono ?_; rintro e w2 ⟨rfl,hb2⟩; exact ⟨rfl,iU (hS0.2.1.I.below hb2) (hS0.2.2.I.below hb2)⟩); simp only [pt,sb,s0,s1])
  (refine cl (b_ vC) 129 #[i_ j_ x.id] ?_ ?_ ?_; (intro w0 hS0; obtain ⟨⟨q0,q1,q2,q3,q4,q5,q6,q7,q8,q9,kY,kV,lB,lz,Ch⟩,hH⟩:=hS0; go_simp; try with_reducible rfl); (intro w0 hS0; refine (eW x.id w0).mono ?_; rintro e w2 ⟨rfl,rfl⟩; exact ⟨HC.I,hS0⟩); simp only [pt,sb,s0,s1])
  (refine agj ?_)
 rotate_left
 focus iterate 5 (refine nl ?_; simp only [pt,sb,s0,s1])
 all_goals iterate 2 (refine agj ?_)
 rotate_right
 rcases vC.eq_false_or_eq_true with rfl | rfl
 focus
  iterate 2 (refine agj ?_)
  (refine cl (b_ vD) 236 #[a_ x.row] ?_ ?_ ?_; (intro w0 hS0; obtain ⟨⟨q0,q1,q2,q3,q4,q5,q6,q7,q8,q9,kY,kV,lB,lz,Ch⟩,hH⟩:=hS0; go_simp; try with_reducible rfl); (intro w0 hS0; refine (wo x w0 hS0.2.2.I).mono ?_; rintro e w2 ⟨rfl,hb2⟩; exact ⟨HD.I,iU (hS0.2.1.I.below hb2) (hS0.2.2.I.below hb2)⟩); simp only [pt,sb,s0,s1])
  (refine agj ?_)
 rotate_left
 focus iterate 4 (refine nl ?_; simp only [pt,sb,s0,s1])
 rotate_left
 focus iterate 4 (refine nl ?_; simp only [pt,sb,s0,s1])
 rotate_left
 focus iterate 4 (refine nl ?_; simp only [pt,sb,s0,s1])
 rotate_left
 all_goals (refine agj ?_)
 all_goals refine bk Zcq ?_ _
 all_goals intro w1 cm
 rcases vD.eq_false_or_eq_true with rfl | rfl;rotate_left
 iterate 4
  exact ZaC
 go_wp2_with fail;refine eD (vY w b m Me x) 5 Zcq (iU cm.2.1.I.drew (cm.2.2.I.below (Kp _ _).drew)) ?_
 iterate 4 (refine ly 6 (v:= ?_) (o_ _) rfl rfl Zcq (fun _ _ _ h=>h) (bV Zcq ?_) ?_; rotate_left; (intro w0 hS0; obtain ⟨⟨q0,q1,q2,q3,q4,q5,q6,q7,q8,q9,kY,kV,lB,lz,Ch⟩,hH⟩:=hS0; go_simp; try with_reducible rfl); simp only [pt,sb,s0,s1])
 refine ly 6 (v:=i_ j_ x.id) (o_ _) rfl rfl Zcq (fun _ _ _ h=>h) (iZ (f:=235) (args:= #[a_ x.row]) Zcq ?_ ?_) ?_
 .intro w0 hS0
  obtain ⟨⟨q0,q1,q2,q3,q4,q5,q6,q7,q8,q9,kY,kV,lB,lz,Ch⟩,hH⟩:=hS0
  exact BC
 .intro w0 hS0
  refine (iK x w0).mono ?_;rintro e w2 ⟨rfl,hb2⟩;exact ⟨rfl,iU (hS0.2.1.I.below hb2) (hS0.2.2.I.below hb2)⟩
 simp only [pt,sb,s0,s1];refine fL rfl Zcq Zcq Zcq ?_;intro w1 cm;obtain ⟨w2,hput,hend⟩:=cm.2.1.I.put zo underlying67 HW.I.1 (HL.I.2 (by trivial)) HW.I.2.2 HW.I.2.1;have HE:bN (dD w b m true x.id (aX x) 41 (r_ (b_ true)) w2):=hend;exact Zac
def Ho (w:w_) (Me:Int) (da:List ao) (k:Nat) (wr:w_):Prop:=
 ∃ l:List (ao × Nat),l.map (·.1)=da.take k/\eS aX (fun x:ao=>x.id) 41 69 w wr Me l/\aw (fun x:ao=>x.id) (fun x:ao=>cH x.toaD) 0 (da.take k)=true/\(k:Int)<=max Me 0
def tw (a:Option d_) (da:List ao) (cap:Nat) (Me:Int) (w:w_) (hl:da.length<=1048576) (h:bg.bU w a da) (hf: ∀ x∈da,eL w x) (hw: ∀ x∈da,(Lit.int j_ x.id).wf=true):
  k_ J3 50 #[s_ a da.length cap,i_ j_ Me] w fun e w'=>jN aX (fun x:ao=>x.id) 41 w Me (aw (fun x:ao=>x.id) (fun x:ao=>cH x.toaD) 0 da && decide ((da.length:Int)<=max Me 0)) da e w':=by
 have hmk:=P4 (P:=J3) 67;have hmn:=ob;have H0:bN (eS aX (fun x:ao=>x.id) 41 69 w (((w.alloc (c_ #[i_ j_ 0,.map n_] 69)).alloc (.map #[] 0)).alloc (c_ #[i_ j_ Me,.map (o_ (w.heap.size+1))] 69)) Me []):=eS.start 69 w Me;have HL:bN (bg.bU w a da/\(∀ x∈da,eL w x)/\ ∀ x∈da,(Lit.int j_ x.id).wf=true):=⟨h,hf,hw⟩
 clear h hf hw;generalize hTB:(aw (fun x:ao=>x.id) (fun x:ao=>cH x.toaD) 0 da && decide ((da.length:Int)<=max Me 0))=anL;have HTB:bN (_=anL):=hTB;clear hTB
 go_enter func50,ntmps50
 go_wp2_with fail;have alN:= @cn;have anw:= @iK;have anz:= @Bp;have bA:= @bo;have anG: ∀ (x:ao) (W:w_) (g:Nat),W.heap[g]? =o_ (c_ (aX x) 41)->bN (W.heap[g]? =o_ (c_ (aX x) 41)):=fun _ _ _ h=>h
 have anQ:=results50
 go_loopw [7,15] (fun last i wr=> ∃ k:Nat,k<=da.length/\i=i_ j_ k/\last=i_ j_ (bW (·.id) 0 (da.take k))/\bN (Ho w Me da k wr)) (fun _ i _=>da.length - (intOf i).toNat)
 case atStart=>exact ⟨0,Ky _,rfl,rfl,⟨[],by simp,H0.I,rfl,by simp; omega⟩⟩
 case round=>
  exact aa
def qq (w:w_) (b:Nat) (m:df) (Me:Int) (x:au) (w':w_):Prop:=(w'.cell? ⟨w.heap.size,0,n_⟩=o_ (i_ j_ Me)/\w'.cell? ⟨w.heap.size,1,n_⟩=o_ (.map (o_ b))/\(∀ ty,(Builtin.len_ #[79] ty #[.map (o_ b)]).run J3 w'= .ok (i_ j_ (m.length:Int)) w')/\w'.cell? ⟨w.heap.size+1,0,n_⟩=o_ (i_ j_ x.id)/\w'.cell? ⟨w.heap.size+1,1,n_⟩=o_ (i_ j_ x.max)/\w'.cell? ⟨w.heap.size+1,2,n_⟩=o_ (s_ x.ak x.Ma.length x.aq))/\bN (fe w w' w.heap.size (w.heap.size+1) b m Me (bQ x) 96 81)/\bN (fM w' x)
def gB {w w':w_} {b:Nat} {m:df} {Me:Int} {x:au} (h:fe w w' w.heap.size (w.heap.size+1) b m Me (bQ x) 96 81) (hf:fM w' x):qq w b m Me x w':=
 ⟨⟨h.cells.1,h.cells.2,fun ty=>h.mp.len underlying79 ty,ia h.bx⟩,h,hf⟩
def pV (Me:Int) (b:Nat) (m:df) (x:au) (w:w_) (h:cF w b m) (hw:(Lit.int j_ x.id).wf=true) (hm:m.length<=1048576) (hf:fM w x):
  k_ J3 99 #[a_ #[i_ j_ Me,.map (o_ b)],a_ (bQ x)] w fun e w'=>dD w b m (iI Me m x.id (ct x.toci)) x.id (bQ x) 96 e w':=by
 have HF:bN (fe w ((w.alloc (c_ #[i_ j_ Me,.map (o_ b)] 81)).alloc (c_ (bQ x) 96)) w.heap.size (w.heap.size+1) b m Me (bQ x) 96 81):=fe.start w h Me _ _ _;have HW:bN ((Lit.int j_ x.id).wf=true/\ ¬ w.heap.size+1=b/\m.length<=1048576):=⟨hw,by have:=h.lt; omega,hm⟩
 have HI:bN (fM ((w.alloc (c_ #[i_ j_ Me,.map (o_ b)] 81)).alloc (c_ (bQ x) 96)) x):=hf.below ((((Kp _ w).alloc (Ki _) _)).alloc zw _);have hmn:=mc;have hmr:=se;obtain ⟨s0,s1⟩:=HF.I.cells;obtain ⟨c0,c1,c2⟩:=ia HF.I.bx;clear h hw hf hm;unfold bQ at *
 go_enter func99,ntmps99
 go_wp2_with fail;clear s0 s1 c0 c1 c2;obtain ⟨vA,hA⟩: ∃ v,(cz m x.id).isSome=v:=⟨_,rfl⟩
 obtain ⟨vB,F6⟩: ∃ v,decide (Me<=(m.length:Int))=v:=⟨_,rfl⟩
 obtain ⟨vC,hC⟩: ∃ v,cv x.id 1 1000=v:=⟨_,rfl⟩
 obtain ⟨vD,hD⟩: ∃ v,ct x.toci=v:=⟨_,rfl⟩
 have HL:bN (iI Me m x.id (ct x.toci)=(!vA && !vB && vC && vD)/\(vA=false->cz m x.id=n_)):=⟨pi hA F6 hC hD,fun e=>PX.1 (PY.1 (hA.trans e))⟩
 have HA:bN (Ending.returned (b_ (cz m x.id).isSome)=r_ (b_ vA)):=al hA;have HC:bN (Ending.returned (b_ (cv x.id 1 1000))=r_ (b_ vC)):=al hC;have HD:bN (Ending.returned (b_ (ct x.toci))=r_ (b_ vD)):=al hD;clear hA hC hD;refine aT (qq w b m Me x) Zcq (gB HF.I.drew (HI.I.below (Kp _ _).drew)) ?_
 iterate 3 (refine agj ?_)
 (refine cl (i_ j_ x.id) 262 #[a_ #[i_ j_ x.id,i_ j_ x.max,s_ x.ak x.Ma.length x.aq]] ?_ ?_ ?_; (intro w0 hS0; obtain ⟨⟨q0,q1,q2,q3,q4,q5⟩,hH⟩:=hS0; go_simp; try with_reducible rfl); (intro w0 hS0; refine (gP x w0).mono ?_; rintro e w2 ⟨rfl,hb2⟩; exact ⟨rfl,gB (hS0.2.1.I.below hb2) (hS0.2.2.I.below hb2)⟩); simp only [pt,sb,s0,s1])
 (refine cl (b_ vA) 133 #[a_ #[i_ j_ Me,.map (o_ b)],i_ j_ x.id] ?_ ?_ ?_; (intro w0 hS0; obtain ⟨⟨q0,q1,q2,q3,q4,q5⟩,hH⟩:=hS0; go_simp; try with_reducible rfl); (intro w0 hS0; refine (mE Me b m x.id w0 hS0.2.1.I.mp HW.I.1).mono ?_; rintro e w2 ⟨rfl,hb2⟩; exact ⟨HA.I,gB (hS0.2.1.I.below hb2) (hS0.2.2.I.below hb2)⟩); simp only [pt,sb,s0,s1])
 (refine agj ?_)
 rcases vA.eq_false_or_eq_true with rfl | rfl
 focus iterate 6 (refine nl ?_; simp only [pt,sb,s0,s1])
 rotate_left
 focus iterate 6 (refine agj ?_)
 all_goals iterate 2 (refine agj ?_)
 rcases vB.eq_false_or_eq_true with rfl | rfl
 focus iterate 5 (refine nl ?_; simp only [pt,sb,s0,s1])
 rotate_left
 focus
  iterate 2 (refine agj ?_)
  (refine cl (i_ j_ x.id) 262 #[a_ #[i_ j_ x.id,i_ j_ x.max,s_ x.ak x.Ma.length x.aq]] ?_ ?_ ?_; (intro w0 hS0; obtain ⟨⟨q0,q1,q2,q3,q4,q5⟩,hH⟩:=hS0; go_simp; try with_reducible rfl); (intro w0 hS0; refine (gP x w0).mono ?_; rintro e w2 ⟨rfl,hb2⟩; exact ⟨rfl,gB (hS0.2.1.I.below hb2) (hS0.2.2.I.below hb2)⟩); simp only [pt,sb,s0,s1])
  (refine cl (b_ vC) 129 #[i_ j_ x.id] ?_ ?_ ?_; (intro w0 hS0; obtain ⟨⟨q0,q1,q2,q3,q4,q5⟩,hH⟩:=hS0; go_simp; try with_reducible rfl); (intro w0 hS0; refine (eW x.id w0).mono ?_; rintro e w2 ⟨rfl,rfl⟩; exact ⟨HC.I,hS0⟩); simp only [pt,sb,s0,s1])
  (refine agj ?_)
 rotate_left
 focus iterate 5 (refine nl ?_; simp only [pt,sb,s0,s1])
 all_goals iterate 2 (refine agj ?_)
 rotate_right
 rcases vC.eq_false_or_eq_true with rfl | rfl
 focus
  iterate 2 (refine agj ?_)
  (refine cl (b_ vD) 263 #[a_ #[i_ j_ x.id,i_ j_ x.max,s_ x.ak x.Ma.length x.aq]] ?_ ?_ ?_; (intro w0 hS0; obtain ⟨⟨q0,q1,q2,q3,q4,q5⟩,hH⟩:=hS0; go_simp; try with_reducible rfl); (intro w0 hS0; refine (Sr x w0 hS0.2.2.I).mono ?_; rintro e w2 ⟨rfl,hb2⟩; exact ⟨HD.I,gB (hS0.2.1.I.below hb2) (hS0.2.2.I.below hb2)⟩); simp only [pt,sb,s0,s1])
  (refine agj ?_)
 rotate_left
 focus iterate 4 (refine nl ?_; simp only [pt,sb,s0,s1])
 rotate_left
 focus iterate 4 (refine nl ?_; simp only [pt,sb,s0,s1])
 rotate_left
 focus iterate 4 (refine nl ?_; simp only [pt,sb,s0,s1])
 rotate_left
 all_goals (refine agj ?_)
 all_goals refine bk Zcq ?_ _
 all_goals intro w1 cm
 rcases vD.eq_false_or_eq_true with rfl | rfl;rotate_left
 iterate 4
  exact ZaC
 go_wp2_with fail;refine eD (qq w b m Me x) 5 Zcq (gB cm.2.1.I.drew (cm.2.2.I.below (Kp _ _).drew)) ?_
 iterate 4 (refine ly 6 (v:= ?_) (o_ _) rfl rfl Zcq (fun _ _ _ h=>h) (bV Zcq ?_) ?_; rotate_left; (intro w0 hS0; obtain ⟨⟨q0,q1,q2,q3,q4,q5⟩,hH⟩:=hS0; go_simp; try with_reducible rfl); simp only [pt,sb,s0,s1])
 refine ly 6 (v:=i_ j_ x.id) (o_ _) rfl rfl Zcq (fun _ _ _ h=>h) (iZ (f:=262) (args:= #[a_ #[i_ j_ x.id,i_ j_ x.max,s_ x.ak x.Ma.length x.aq]]) Zcq ?_ ?_) ?_
 .exact Zch
 .intro w0 hS0
  refine (gP x w0).mono ?_;rintro e w2 ⟨rfl,hb2⟩;exact ⟨rfl,gB (hS0.2.1.I.below hb2) (hS0.2.2.I.below hb2)⟩
 simp only [pt,sb,s0,s1];refine fL rfl Zcq Zcq Zcq ?_;intro w1 cm;obtain ⟨w2,hput,hend⟩:=cm.2.1.I.put zo underlying79 HW.I.1 (HL.I.2 (by trivial)) HW.I.2.2 HW.I.2.1;have HE:bN (dD w b m true x.id (bQ x) 96 (r_ (b_ true)) w2):=hend;exact Zac
def Dj (w:w_) (Me:Int) (da:List au) (k:Nat) (wr:w_):Prop:=
 ∃ l:List (au × Nat),l.map (·.1)=da.take k/\eS bQ (fun x:au=>x.id) 96 81 w wr Me l/\aw (fun x:au=>x.id) (fun x:au=>ct x.toci) 0 (da.take k)=true/\(k:Int)<=max Me 0
def rH (a:Option d_) (da:List au) (cap:Nat) (Me:Int) (w:w_) (hl:da.length<=1048576) (h:bm.bU w a da) (hf: ∀ x∈da,fM w x) (hw: ∀ x∈da,(Lit.int j_ x.id).wf=true):
  k_ J3 54 #[s_ a da.length cap,i_ j_ Me] w fun e w'=>jN bQ (fun x:au=>x.id) 96 w Me (aw (fun x:au=>x.id) (fun x:au=>ct x.toci) 0 da && decide ((da.length:Int)<=max Me 0)) da e w':=by
 have hmk:=P4 (P:=J3) 79;have hmn:=mc;have H0:bN (eS bQ (fun x:au=>x.id) 96 81 w (((w.alloc (c_ #[i_ j_ 0,.map n_] 81)).alloc (.map #[] 0)).alloc (c_ #[i_ j_ Me,.map (o_ (w.heap.size+1))] 81)) Me []):=eS.start 81 w Me;have HL:bN (bm.bU w a da/\(∀ x∈da,fM w x)/\ ∀ x∈da,(Lit.int j_ x.id).wf=true):=⟨h,hf,hw⟩
 clear h hf hw;generalize hTB:(aw (fun x:au=>x.id) (fun x:au=>ct x.toci) 0 da && decide ((da.length:Int)<=max Me 0))=anL;have HTB:bN (_=anL):=hTB;clear hTB
 go_enter func54,ntmps54
 go_wp2_with fail;have alN:= @iA;have anw:= @gP;have anz:= @pV;have bA:= @ia;have anG: ∀ (x:au) (W:w_) (g:Nat),W.heap[g]? =o_ (c_ (bQ x) 96)->bN (W.heap[g]? =o_ (c_ (bQ x) 96)):=fun _ _ _ h=>h
 have anQ:=results54
 go_loopw [7,15] (fun last i wr=> ∃ k:Nat,k<=da.length/\i=i_ j_ k/\last=i_ j_ (bW (·.id) 0 (da.take k))/\bN (Dj w Me da k wr)) (fun _ i _=>da.length - (intOf i).toNat)
 case atStart=>exact ⟨0,Ky _,rfl,rfl,⟨[],by simp,H0.I,rfl,by simp; omega⟩⟩
 case round=>
  exact aa
def rP (w:w_) (b:Nat) (m:df) (Me:Int) (x:az) (w':w_):Prop:=(w'.cell? ⟨w.heap.size,0,n_⟩=o_ (i_ j_ Me)/\w'.cell? ⟨w.heap.size,1,n_⟩=o_ (.map (o_ b))/\(∀ ty,(Builtin.len_ #[76] ty #[.map (o_ b)]).run J3 w'= .ok (i_ j_ (m.length:Int)) w')/\w'.cell? ⟨w.heap.size+1,0,n_⟩=o_ (i_ j_ x.id)/\w'.cell? ⟨w.heap.size+1,1,n_⟩=o_ (b_ x.shown)/\w'.cell? ⟨w.heap.size+1,2,n_⟩=o_ (t_ x.text))/\bN (fe w w' w.heap.size (w.heap.size+1) b m Me (cI x) 93 78)/\bN (gX w' x)
def ii {w w':w_} {b:Nat} {m:df} {Me:Int} {x:az} (h:fe w w' w.heap.size (w.heap.size+1) b m Me (cI x) 93 78) (hf:gX w' x):rP w b m Me x w':=
 ⟨⟨h.cells.1,h.cells.2,fun ty=>h.mp.len underlying76 ty,kJ h.bx⟩,h,hf⟩
def rr (Me:Int) (b:Nat) (m:df) (x:az) (w:w_) (h:cF w b m) (hw:(Lit.int j_ x.id).wf=true) (hm:m.length<=1048576) (hf:gX w x):
  k_ J3 98 #[a_ #[i_ j_ Me,.map (o_ b)],a_ (cI x)] w fun e w'=>dD w b m (iI Me m x.id (cU x)) x.id (cI x) 93 e w':=by
 have HF:bN (fe w ((w.alloc (c_ #[i_ j_ Me,.map (o_ b)] 78)).alloc (c_ (cI x) 93)) w.heap.size (w.heap.size+1) b m Me (cI x) 93 78):=fe.start w h Me _ _ _;have HW:bN ((Lit.int j_ x.id).wf=true/\ ¬ w.heap.size+1=b/\m.length<=1048576):=⟨hw,by have:=h.lt; omega,hm⟩
 have HI:bN (gX ((w.alloc (c_ #[i_ j_ Me,.map (o_ b)] 78)).alloc (c_ (cI x) 93)) x):=hf.below ((((Kp _ w).alloc (Ki _) _)).alloc zw _);have hmn:=nr;have hmr:=tq;obtain ⟨s0,s1⟩:=HF.I.cells;obtain ⟨c0,c1,c2⟩:=kJ HF.I.bx;clear h hw hf hm;unfold cI at *
 go_enter func98,ntmps98
 go_wp2_with fail;clear s0 s1 c0 c1 c2;obtain ⟨vA,hA⟩: ∃ v,(cz m x.id).isSome=v:=⟨_,rfl⟩
 obtain ⟨vB,F6⟩: ∃ v,decide (Me<=(m.length:Int))=v:=⟨_,rfl⟩
 obtain ⟨vC,hC⟩: ∃ v,cv x.id 1 1000=v:=⟨_,rfl⟩
 obtain ⟨vD,hD⟩: ∃ v,cU x=v:=⟨_,rfl⟩
 have HL:bN (iI Me m x.id (cU x)=(!vA && !vB && vC && vD)/\(vA=false->cz m x.id=n_)):=⟨pi hA F6 hC hD,fun e=>PX.1 (PY.1 (hA.trans e))⟩
 have HA:bN (Ending.returned (b_ (cz m x.id).isSome)=r_ (b_ vA)):=al hA;have HC:bN (Ending.returned (b_ (cv x.id 1 1000))=r_ (b_ vC)):=al hC;have HD:bN (Ending.returned (b_ (cU x))=r_ (b_ vD)):=al hD;clear hA hC hD;refine aT (rP w b m Me x) Zcq (ii HF.I.drew (HI.I.below (Kp _ _).drew)) ?_
 iterate 3 (refine agj ?_)
 (refine cl (i_ j_ x.id) 259 #[a_ #[i_ j_ x.id,b_ x.shown,t_ x.text]] ?_ ?_ ?_; (intro w0 hS0; obtain ⟨⟨q0,q1,q2,q3,q4,q5⟩,hH⟩:=hS0; go_simp; try with_reducible rfl); (intro w0 hS0; refine (iq x w0).mono ?_; rintro e w2 ⟨rfl,hb2⟩; exact ⟨rfl,ii (hS0.2.1.I.below hb2) (hS0.2.2.I.below hb2)⟩); simp only [pt,sb,s0,s1])
 (refine cl (b_ vA) 132 #[a_ #[i_ j_ Me,.map (o_ b)],i_ j_ x.id] ?_ ?_ ?_; (intro w0 hS0; obtain ⟨⟨q0,q1,q2,q3,q4,q5⟩,hH⟩:=hS0; go_simp; try with_reducible rfl); (intro w0 hS0; refine (qM Me b m x.id w0 hS0.2.1.I.mp HW.I.1).mono ?_; rintro e w2 ⟨rfl,hb2⟩; exact ⟨HA.I,ii (hS0.2.1.I.below hb2) (hS0.2.2.I.below hb2)⟩); simp only [pt,sb,s0,s1])
 (refine agj ?_)
 rcases vA.eq_false_or_eq_true with rfl | rfl
 focus iterate 6 (refine nl ?_; simp only [pt,sb,s0,s1])
 rotate_left
 focus iterate 6 (refine agj ?_)
 all_goals iterate 2 (refine agj ?_)
 rcases vB.eq_false_or_eq_true with rfl | rfl
 focus iterate 5 (refine nl ?_; simp only [pt,sb,s0,s1])
 rotate_left
 focus
  iterate 2 (refine agj ?_)
  (refine cl (i_ j_ x.id) 259 #[a_ #[i_ j_ x.id,b_ x.shown,t_ x.text]] ?_ ?_ ?_; (intro w0 hS0; obtain ⟨⟨q0,q1,q2,q3,q4,q5⟩,hH⟩:=hS0; go_simp; try with_reducible rfl); (intro w0 hS0; refine (iq x w0).mono ?_; rintro e w2 ⟨rfl,hb2⟩; exact ⟨rfl,ii (hS0.2.1.I.below hb2) (hS0.2.2.I.below hb2)⟩); simp only [pt,sb,s0,s1])
  (refine cl (b_ vC) 129 #[i_ j_ x.id] ?_ ?_ ?_; (intro w0 hS0; obtain ⟨⟨q0,q1,q2,q3,q4,q5⟩,hH⟩:=hS0; go_simp; try with_reducible rfl); (intro w0 hS0; refine (eW x.id w0).mono ?_; rintro e w2 ⟨rfl,rfl⟩; exact ⟨HC.I,hS0⟩); simp only [pt,sb,s0,s1])
  (refine agj ?_)
 rotate_left
 focus iterate 5 (refine nl ?_; simp only [pt,sb,s0,s1])
 all_goals iterate 2 (refine agj ?_)
 rotate_right
 rcases vC.eq_false_or_eq_true with rfl | rfl
 focus
  iterate 2 (refine agj ?_)
  (refine cl (b_ vD) 260 #[a_ #[i_ j_ x.id,b_ x.shown,t_ x.text]] ?_ ?_ ?_; (intro w0 hS0; obtain ⟨⟨q0,q1,q2,q3,q4,q5⟩,hH⟩:=hS0; go_simp; try with_reducible rfl); (intro w0 hS0; refine (wd x w0 hS0.2.2.I).mono ?_; rintro e w2 ⟨rfl,hb2⟩; exact ⟨HD.I,ii (hS0.2.1.I.below hb2) (hS0.2.2.I.below hb2)⟩); simp only [pt,sb,s0,s1])
  (refine agj ?_)
 rotate_left
 focus iterate 4 (refine nl ?_; simp only [pt,sb,s0,s1])
 rotate_left
 focus iterate 4 (refine nl ?_; simp only [pt,sb,s0,s1])
 rotate_left
 focus iterate 4 (refine nl ?_; simp only [pt,sb,s0,s1])
 rotate_left
 all_goals (refine agj ?_)
 all_goals refine bk Zcq ?_ _
 all_goals intro w1 cm
 rcases vD.eq_false_or_eq_true with rfl | rfl;rotate_left
 iterate 4
  exact ZaC
 go_wp2_with fail;refine eD (rP w b m Me x) 5 Zcq (ii cm.2.1.I.drew (cm.2.2.I.below (Kp _ _).drew)) ?_
 iterate 4 (refine ly 6 (v:= ?_) (o_ _) rfl rfl Zcq (fun _ _ _ h=>h) (bV Zcq ?_) ?_; rotate_left; (intro w0 hS0; obtain ⟨⟨q0,q1,q2,q3,q4,q5⟩,hH⟩:=hS0; go_simp; try with_reducible rfl); simp only [pt,sb,s0,s1])
 refine ly 6 (v:=i_ j_ x.id) (o_ _) rfl rfl Zcq (fun _ _ _ h=>h) (iZ (f:=259) (args:= #[a_ #[i_ j_ x.id,b_ x.shown,t_ x.text]]) Zcq ?_ ?_) ?_
 .exact Zch
 .intro w0 hS0
  refine (iq x w0).mono ?_;rintro e w2 ⟨rfl,hb2⟩;exact ⟨rfl,ii (hS0.2.1.I.below hb2) (hS0.2.2.I.below hb2)⟩
 simp only [pt,sb,s0,s1];refine fL rfl Zcq Zcq Zcq ?_;intro w1 cm;obtain ⟨w2,hput,hend⟩:=cm.2.1.I.put zo underlying76 HW.I.1 (HL.I.2 (by trivial)) HW.I.2.2 HW.I.2.1;have HE:bN (dD w b m true x.id (cI x) 93 (r_ (b_ true)) w2):=hend;exact Zac
def EX (w:w_) (Me:Int) (da:List az) (k:Nat) (wr:w_):Prop:=
 ∃ l:List (az × Nat),l.map (·.1)=da.take k/\eS cI (fun x:az=>x.id) 93 78 w wr Me l/\aw (fun x:az=>x.id) (fun x:az=>cU x) 0 (da.take k)=true/\(k:Int)<=max Me 0
def si (a:Option d_) (da:List az) (cap:Nat) (Me:Int) (w:w_) (hl:da.length<=1048576) (h:bG.bU w a da) (hf: ∀ x∈da,gX w x) (hw: ∀ x∈da,(Lit.int j_ x.id).wf=true):
  k_ J3 53 #[s_ a da.length cap,i_ j_ Me] w fun e w'=>jN cI (fun x:az=>x.id) 93 w Me (aw (fun x:az=>x.id) (fun x:az=>cU x) 0 da && decide ((da.length:Int)<=max Me 0)) da e w':=by
 have hmk:=P4 (P:=J3) 76;have hmn:=nr;have H0:bN (eS cI (fun x:az=>x.id) 93 78 w (((w.alloc (c_ #[i_ j_ 0,.map n_] 78)).alloc (.map #[] 0)).alloc (c_ #[i_ j_ Me,.map (o_ (w.heap.size+1))] 78)) Me []):=eS.start 78 w Me;have HL:bN (bG.bU w a da/\(∀ x∈da,gX w x)/\ ∀ x∈da,(Lit.int j_ x.id).wf=true):=⟨h,hf,hw⟩
 clear h hf hw;generalize hTB:(aw (fun x:az=>x.id) (fun x:az=>cU x) 0 da && decide ((da.length:Int)<=max Me 0))=anL;have HTB:bN (_=anL):=hTB;clear hTB
 go_enter func53,ntmps53
 go_wp2_with fail;have alN:= @jr;have anw:= @iq;have anz:= @rr;have bA:= @kJ;have anG: ∀ (x:az) (W:w_) (g:Nat),W.heap[g]? =o_ (c_ (cI x) 93)->bN (W.heap[g]? =o_ (c_ (cI x) 93)):=fun _ _ _ h=>h
 have anQ:=results53
 go_loopw [7,15] (fun last i wr=> ∃ k:Nat,k<=da.length/\i=i_ j_ k/\last=i_ j_ (bW (·.id) 0 (da.take k))/\bN (EX w Me da k wr)) (fun _ i _=>da.length - (intOf i).toNat)
 case atStart=>exact ⟨0,Ky _,rfl,rfl,⟨[],by simp,H0.I,rfl,by simp; omega⟩⟩
 case round=>
  exact aa
end
section
open Go.RowKit Go.Maps Go.Sort Go.Shelf
def yI (mb:Option Nat) (W:w_):k_ J3 139 #[.map mb] W fun e w'=>e=r_ (.func (.func 178) #[] #[p_ (o_ ⟨W.heap.size,0,n_⟩)])/\w'=W.alloc (c_ #[.map mb] 70):=
 (LO (n:=5)).1 (RC Tryz.keysSem Fence.wide 5 trivial rfl mb W)
def qR (Bm b:Nat) (m:df) (W:w_) (hBm:Bm < W.heap.size) (hc:W.cell? ⟨Bm,0,n_⟩=o_ (.map (o_ b))) (h:cF W b m) (hm:m.length<=1048576):
  k_ J3 135 #[.func (.func 178) #[] #[p_ (o_ ⟨Bm,0,n_⟩)]] W fun e w'=> ∃ v:v_,e=r_ v/\w'.ownsRow W.heap.size 2 1 v m.length (m.map fun p=> i_ j_ p.1)/\B_ W.heap.size W w':=by
 have hsz:Maps.size (gA m)=m.length:=size_map m;have hseq:SeqGives Fence.wide 2 J3 178 #[p_ (o_ ⟨Bm,0,n_⟩)] encZ (fun ss=>ss.Perm (intKeys (gA m))) (Maps.size (gA m)) W:=
  RD (ρ:=Tryz.keysSem_ren) { Tryz.keysSem with } Fence.wide _ trivial rfl zo Bm b m.length (gA m) W hBm hc h.1
 have cS:=RE Tryz.sortedA Fence.wide 5 trivial trivial trivial trivial rfl zo (Tryz.sortsA _) (LP func176 Zcq rfl) 178 #[p_ (o_ ⟨Bm,0,n_⟩)] trivial (LP func178 Zcq rfl) _ _ ZcJ Zc2 _ hseq
 exact mi
def CX:(Tryz.prog.info? 174).map (fun i=>(i.zero,i.size,i.bytes))=o_ (o_ (p_ n_),1,8):=by kernel_rfl
def CS (Me:Int) (b:Nat) (m:df) (w:w_) (h:cF w b m) (hm:m.length<=1048576) (hwf: ∀ p∈m,(Lit.int j_ p.1).wf=true):
  k_ J3 105 #[a_ #[i_ j_ Me,.map (o_ b)]] w fun e w'=> ∃ a cap,e=r_ (s_ a m.length cap)/\w'.ownsRow w.heap.size 174 1 (s_ a m.length cap) m.length (m.map fun p=>dt p.2)/\B_ w.heap.size w w':=by
 obtain ⟨i0,hi,e0⟩:=Kw.1 CX;simp only [Kx] at e0;have HI:bN (_/\_/\_/\_):=⟨hi,e0⟩
 have HM:bN (cF w b m/\ ∀ p∈m,(Lit.int j_ p.1).wf=true):=⟨h,hwf⟩
 have hbl:b < w.heap.size:=h.lt;clear hi e0 h hwf
 go_enter func105,ntmps105
 go_wp2_with (go_at_call 139; refine (yI _ _).mono ?_; rintro e w' ⟨rfl,rfl⟩);refine (qR (w.heap.size+1) b m _ zw zw (HM.I.1.below (((Kp _ w).alloc (Ki _) _).alloc zw _)) hm).mono ?_;rintro e w2 ⟨v,rfl,hown,hb2⟩;have cy:bN (B_ w.heap.size w w2):=(((Kp _ w).alloc (Ki _) _).alloc zw _).trans (hb2.mono Zcr);have HS:bN (w2.heap[w.heap.size]? =o_ (c_ #[i_ j_ Me,.map (o_ b)] 72)):=(hb2.block _ Zcr).trans ((PU zw).trans (Kj _ _));obtain ⟨a,cap,hv,hrow⟩:=cr hown;have HR:bN (Row w2 a (m.map fun p=> i_ j_ p.1)):=hrow;rw [hv];clear hv hown hrow hb2 v;go_wp2_with fail;have Zc:=underlying70;have YC:=underlying172;have anF:=vU
 go_loopw [3,11] (fun l i wr=> ∃ k:Nat,k<=m.length/\i=i_ j_ k/\ ∃ a' cap',l=s_ a' k cap'/\bN (anZ 174 w2 m k a' cap' wr)) (fun _ i _=>m.length - (intOf i).toNat)
 case atStart=>exact ⟨0,Ky _,rfl,n_,0,rfl,⟨Ke _ _ _ _,Kp _ _⟩⟩
 case round=>
  exact ab
end
section
open Go.Maps
attribute [local go_sem ↓] Kc Kd
def tj (r:Option (ao × Nat)) (x:ao × Nat):Option (ao × Nat):=match r with
 | none=>o_ x
 | some b=>if dF x.1.toaD b.1.toaD then o_ x else o_ b
def li (l:List (ao × Nat)):Option (ao × Nat):=l.foldl tj n_
def nH (l:List (ao × Nat)) (x:ao × Nat):li (l ++ [x])=tj (li l) x:=by simp [li]
def CV (r:Option (ao × Nat)) (x:ao × Nat): ∃ y,tj r x=o_ y/\(y=x\/r=o_ y):=by
 unfold tj
 split
 .exact ⟨_,rfl,.inl rfl⟩
 .split
  .exact ⟨_,rfl,.inl rfl⟩
  .exact ⟨_,rfl,.inr rfl⟩
def ql {l:List (ao × Nat)} : ∀ {k:Nat},0 < k->k<=l.length-> ∃ y,li (l.take k)=o_ y/\y∈l
 | 0,h,_=>absurd h zo
 | k+1,_,hk=>by
  obtain ⟨x,hx⟩: ∃ x,l[k]? =o_ x:=⟨_,Kz zo⟩
  rw [cj hx,nH];obtain ⟨y,hy,h1⟩:=CV (li (l.take k)) x;refine ⟨y,hy,?_⟩;rcases h1 with rfl | h1
  .exact KA hx
  .by_cases h0:0 < k
   .obtain ⟨z,hz,hm⟩:=ql h0 (by omega:k<=l.length)
    rw [hz] at h1;cases h1;exact hm
   .rw [show k=0 by omega] at h1
    simp [li] at h1
def vj (l:List (ao × Nat)):(li l).map (fun p=>p.1.toaD)=jo (l.map fun p=>p.1.toaD):=by
 have key: ∀ (l:List (ao × Nat)) (r:Option (ao × Nat)),(l.foldl tj r).map (fun p=>p.1.toaD)=(l.map fun p=>p.1.toaD).foldl iy (r.map fun p=>p.1.toaD):=by
  intro l
  induction l with
  | nil=>intro r; rfl
  | cons x l ih=>
   intro r;simp only [List.foldl_cons,Lt,ih]
   congr 1
   cases r with
   | none=>rfl
   | some b=>
    simp only [tj,iy,J9]
    split <;> rfl
 exact key l n_
def et (l:List (ao × Nat)):List (ao × Nat):=l.filter fun p=>decide (p.1.Md=1)
def sV (l:List (ao × Nat)) (p:ao × Nat):et (l ++ [p])=et l ++ (if p.1.Md=1 then [p] else []):=by
 unfold et;rw [QN];by_cases h:p.1.Md=1 <;> simp [h]
def yX (A B:Nat) (a b:ao) (w:w_) (ha:w.heap[A]? =o_ (c_ (aX a) 41)) (hb:w.heap[B]? =o_ (c_ (aX b) 41)):
  k_ J3 70 #[p_ (o_ ⟨A,0,n_⟩),p_ (o_ ⟨B,0,n_⟩)] w fun e w'=>e=r_ (b_ (dF a.toaD b.toaD))/\B_ w.heap.size w w':=by
 obtain ⟨-,a1,-,-,-,-,-,-,-,-,-,a11⟩:=bo ha;obtain ⟨-,b1,-,-,-,-,-,-,-,-,-,b11⟩:=bo hb;clear ha hb
 go_enter func70,ntmps70
 by_cases hp:a.RX=b.RX
 .have e1:(a.RX != b.RX)=false:=by simp [hp]
  by_cases hs:a.RU < b.RU
  .have ds:decide (a.RU < b.RU)=true:=decide_eq_true hs
   have HV:bN (dF a.toaD b.toaD=true):=by show dF _ _=_; unfold dF; rw [if_pos hp]; exact ds
   exact gc
  .have ds:decide (a.RU < b.RU)=false:=decide_eq_false hs
   have HV:bN (dF a.toaD b.toaD=false):=by show dF _ _=_; unfold dF; rw [if_pos hp]; exact ds
   exact gc
 .have e1:(a.RX != b.RX)=true:=by simp [hp]
  by_cases hs:b.RX < a.RX
  .have ds:decide (b.RX < a.RX)=true:=decide_eq_true hs
   have HV:bN (dF a.toaD b.toaD=true):=by show dF _ _=_; unfold dF; rw [if_neg hp]; exact ds
   exact gc
  .have ds:decide (b.RX < a.RX)=false:=decide_eq_false hs
   have HV:bN (dF a.toaD b.toaD=false):=by show dF _ _=_; unfold dF; rw [if_neg hp]; exact ds
   exact gc
def wn (a:Option d_) (l:List (ao × Nat)) (cap:Nat) (w:w_) (hl:l.length<=1048576) (hr:Row w a (l.map fun p=>dt p.2)) (hb: ∀ p∈l,w.heap[p.2]? =o_ (c_ (aX p.1) 41)):
  k_ J3 59 #[s_ a l.length cap,.func (.func 70) #[] #[]] w fun e w'=>e=r_ (u_ #[qz ((li l).map (·.2)),b_ (decide (0 < l.length))])/\B_ w.heap.size w w':=by
 have H:bN (Row w a (l.map fun p=>dt p.2)/\ ∀ p∈l,w.heap[p.2]? =o_ (c_ (aX p.1) 41)):=⟨hr,hb⟩
 clear hr hb
 go_enter func59,ntmps59
 go_wp2_with fail
 go_loopw [6,11] (fun b i wr=> ∃ (k:Nat) (r:Option (ao × Nat)),k<=l.length/\i=i_ j_ k/\b=qz (r.map (·.2))/\bN (r=li (l.take k)/\B_ w.heap.size w wr)) (fun _ i _=>l.length - (intOf i).toNat)
 case atStart=>exact ⟨0,n_,Ky _,rfl,rfl,⟨by simp [li],Kp _ _⟩⟩
 case round=>
  obtain ⟨k,r,hk,rfl,rfl,HA⟩:=hrel;by_cases hlt:k < l.length
  .have i0:(0:Int)<=(k:Int):=zo
   have i1:(k:Int) < (l.length:Int):=zo
   obtain ⟨p,hp⟩: ∃ p,l[k]? =o_ p:=⟨_,Kz hlt⟩
   obtain ⟨g,ha,hc⟩:=(H.I.1.below HA.I.2) k (dt p.2) (by simp [hp]);subst ha;unfold dt at hc;have HP:bN (l[k]? =o_ p/\p∈l):=⟨hp,KA hp⟩
   clear hp;by_cases hk0:k=0
   .have e0:((k:Int) == 0)=true:=by simp [hk0]
    have HS:bN (o_ p=li (l.take (k+1))):=by show _=_; rw [cj HP.I.1,nH,hk0]; rfl
    exact Za5
   .have e0:((k:Int) == 0)=false:=by simp [hk0]
    obtain ⟨y,hy,hym⟩:=ql (l:=l) (by omega:0 < k) hk;have hry:r=o_ y:=HA.I.1.trans hy;subst hry;have HQ:bN (li (l.take k)=o_ y/\y∈l):=⟨hy,hym⟩
    clear hk0 hy hym;simp only [qz,dt,J9];go_wp2_with fail;refine (yX p.2 y.2 p.1 y.1 wr ((HA.I.2.block _ (J2.1 (H.I.2 p HP.I.2)).1).trans (H.I.2 p HP.I.2)) ((HA.I.2.block _ (J2.1 (H.I.2 y HQ.I.2)).1).trans (H.I.2 y HQ.I.2))).mono ?_;rintro e w4 ⟨rfl,hb4⟩;have HB4:bN (B_ w.heap.size w w4):=HA.I.2.trans (hb4.mono HA.I.2.size);clear hb4;cases FT:dF p.1.toaD y.1.toaD with
    | true=>
     have HS:bN (o_ p=li (l.take (k+1))):=by show _=_; rw [cj HP.I.1,nH,HQ.I.1]; simp [tj,FT]
     exact Za6
    | false=>
     have HS:bN (o_ y=li (l.take (k+1))):=by show _=_; rw [cj HP.I.1,nH,HQ.I.1]; simp [tj,FT]
     exact Za7
  .have i1: ¬ (k:Int) < (l.length:Int):=zo
   have HE:bN (r=li l):=by have h5:=HA.I.1; rwa [KF zo] at h5
   go_wp2;go_ret2;refine ⟨?_,HA.I.2⟩;rw [HE.I];simp
def EA (o:Nat) (q:ol) (lp:List (ao × Nat)) (bj:Nat) (w:w_) (hop:fa w o q) (hsh:Shelf aX (fun x:ao=>x.id) 41 w bj q.bp lp) (hl:lp.length<=1048576) (hwf: ∀ p∈RW (fun x:ao=>x.id) lp,(Lit.int j_ p.1).wf=true):
  k_ J3 69 #[p_ (o_ ⟨o,0,n_⟩)] w fun e w'=>(∃ a cap,e=r_ (s_ a (et lp).length cap)/\Row w' a ((et lp).map fun p=>dt p.2))/\B_ w.heap.size w w':=by
 obtain ⟨i0,hi,e0⟩:=Kw.1 sQ;simp only [Kx] at e0;have HI:bN (Tryz.prog.info? 64=o_ i0/\i0.zero=o_ (p_ n_)/\i0.size=1/\i0.bytes=8):=⟨hi,e0⟩
 have H:bN (Shelf aX (fun x:ao=>x.id) 41 w bj q.bp lp/\ ∀ p∈RW (fun x:ao=>x.id) lp,(Lit.int j_ p.1).wf=true):=⟨hsh,hwf⟩
 have c2:w.cell? ⟨o,2,n_⟩=o_ (i_ j_ 6):=hop.cell 2;have c3:w.cell? ⟨o,3,n_⟩=o_ (.map (o_ q.bp)):=hop.cell 3;have HK:bN ((RW (fun x:ao=>x.id) lp).length=lp.length):=bZ lp;clear hop hsh hwf hi e0
 go_enter func69,ntmps69
 go_wp2_with fail;refine (mq 6 q.bp (RW (fun x:ao=>x.id) lp) w H.I.1.map ZcG H.I.2).mono ?_;rintro e w2 ⟨a,cap,rfl,hown,hb2⟩;obtain ⟨a',cap',hv,hrow⟩:=cr hown;cases hv;have HR:bN (Row w2 a ((RW (fun x:ao=>x.id) lp).map fun p=>dt p.2)):=hrow;have HO:bN (Shelf aX (fun x:ao=>x.id) 41 w2 bj q.bp lp/\B_ w.heap.size w w2):=⟨H.I.1.below hb2,hb2⟩
 rw [HK.I];clear hown hrow hb2 c2 c3;go_wp2_with fail
 go_loopw [3,12] (fun l i wr=> ∃ (k n:Nat),k<=lp.length/\n<=k/\i=i_ j_ k/\ ∃ a' cap',l=s_ a' n cap'/\bN (n=(et (lp.take k)).length/\wr.ownsRow w2.heap.size 64 1 (s_ a' n cap') n ((et (lp.take k)).map fun p=>dt p.2)/\B_ w2.heap.size w2 wr)) (fun _ i _=>lp.length - (intOf i).toNat)
 case atStart=>exact ⟨0,0,Ky _,Ki _,rfl,n_,0,rfl,⟨rfl,Ke _ _ _ _,Kp _ _⟩⟩
 case round=>
  obtain ⟨k,n,hk,hn,rfl,a',cap',rfl,HA⟩:=hrel;by_cases hlt:k < lp.length
  .have qE:(0:Int)<=(k:Int):=zo
   have i1:(k:Int) < (lp.length:Int):=zo
   obtain ⟨p,hp⟩: ∃ p,lp[k]? =o_ p:=⟨_,Kz hlt⟩
   obtain ⟨g,ha,hc⟩:=(HR.I.below HA.I.2.2) k (dt p.2) ZcK;subst ha;unfold dt at hc;have HP:bN (lp[k]? =o_ p):=hp;have lW:wr.heap[p.2]? =o_ (c_ (aX p.1) 41):=(HO.I.1.below HA.I.2.2).box p (KA hp);obtain ⟨-,-,-,s3,-⟩:=bo lW;have kT:=HA.I.2.2.size;clear hp lW;by_cases hs:p.1.Md=1
   .have e1:(p.1.Md == 1)=true:=by simp [hs]
    have SC:bN ((et (lp.take (k+1)))=(et (lp.take k)) ++ [p]):=by show _=_; rw [cj HP.I,sV,if_pos hs]
    clear hs;go_wp2_with (at_builtin; refine KD _ rfl _ _ 130 rfl w2.heap.size 64 i0 (p_ n_) 1 8 underlying130 HI.I.1 HI.I.2.1 HI.I.2.2.1 HI.I.2.2.2 rfl (by decide) (s_ a' n cap') n ((et (lp.take k)).map fun p=>dt p.2) rfl (HA.I.2.1.alloc _) ⟨wr.heap.size,0,n_⟩ 1 1 [p_ (o_ ⟨p.2,0,n_⟩)] (by rfl) rfl (KE (cs:= #[p_ (o_ ⟨p.2,0,n_⟩)]) (t:=64) (fr:=(0,0)) (Kj wr _)) ZcS Zcw zo Zcr ?_; intro v' w5 hown' hgrow hnil jV; obtain ⟨a5,im,rfl,-⟩:=cr hown'; have HN:bN (n+1=(et (lp.take (k+1))).length/\w5.ownsRow w2.heap.size 64 1 (s_ a5 (n+1) im) (n+1) ((et (lp.take (k+1))).map fun p=>dt p.2)/\B_ w2.heap.size w2 w5):=⟨by rw [SC.I,Lf,<- HA.I.1]; rfl,by rw [SC.I,Kl]; exact hown',(HA.I.2.2.alloc kT _).grown hgrow Zcr (fun q hq=>(HA.I.2.1.lt q hq).1)⟩; clear hown' hgrow hnil jV);exact Zaj
   .have e1:(p.1.Md == 1)=false:=by simp [hs]
    have SC:bN ((et (lp.take (k+1)))=(et (lp.take k))):=by show _=_; rw [cj HP.I,sV,if_neg hs,QO]
    clear hs;go_wp2;go_roundw
    case rel=>exact ⟨k+1,n,zo,zo,by go_num,a',cap',rfl,by show _/\_; rw [SC.I]; exact HA.I⟩
    case measure=>simp [intOf]; omega
  .have i1: ¬ (k:Int) < (lp.length:Int):=zo
   have HE:bN (n=(et lp).length/\Row wr a' ((et lp).map fun p=>dt p.2)):=by
    have h5:=HA.I;rw [KF zo] at h5;exact Zbb
   exact Zbl
def Cm (o:Nat) (q:ol) (lp:List (ao × Nat)) (bj:Nat) (w:w_) (hop:fa w o q) (hsh:Shelf aX (fun x:ao=>x.id) 41 w bj q.bp lp) (hl:lp.length<=1048576) (hwf: ∀ p∈RW (fun x:ao=>x.id) lp,(Lit.int j_ p.1).wf=true):
  k_ J3 34 #[p_ (o_ ⟨o,0,n_⟩)] w fun e w'=>e=r_ (u_ #[qz ((li (et lp)).map (·.2)),b_ (decide (0 < (et lp).length))])/\B_ w.heap.size w w':=by
 have H:bN (fa w o q/\Shelf aX (fun x:ao=>x.id) 41 w bj q.bp lp/\ ∀ p∈RW (fun x:ao=>x.id) lp,(Lit.int j_ p.1).wf=true):=⟨hop,hsh,hwf⟩
 have HLR:bN ((et lp).length<=1048576):=LG (Qq _ _) hl;clear hop hsh hwf
 go_enter func34,ntmps34
 go_wp2_with fail;refine (EA o q lp bj w H.I.1 H.I.2.1 hl H.I.2.2).mono ?_;rintro e w2 ⟨⟨a,cap,rfl,hr⟩,hb2⟩;have HB:bN (Row w2 a ((et lp).map fun p=>dt p.2)/\B_ w.heap.size w w2/\ ∀ p∈et lp,w2.heap[p.2]? =o_ (c_ (aX p.1) 41)):=⟨hr,hb2,fun p hp=>(H.I.2.1.below hb2).box p (L2.1 hp).1⟩
 clear hr hb2;go_wp2_with fail;refine (wn a (et lp) cap w2 HLR.I HB.I.1 HB.I.2.2).mono ?_;rintro e w3 ⟨rfl,hb3⟩;have oh:bN (B_ w.heap.size w w3):=HB.I.2.1.trans (hb3.mono HB.I.2.1.size);clear hb3;go_wp2;go_ret2;exact ⟨rfl,oh.I⟩
end
end Go.Proofs.YtfncpmaefninjaaGreatDoor
