/- What the proof leans on, part 7. -/
import Derived.Test.YtckenjkcmajicaaGreatOwnF4
import Derived.Test.YtckenjkcmajicaaGreatOwnF5
import Derived.Test.YtckenjkcmajicaaGreatOwnF6
set_option linter.all false
set_option maxRecDepth 100000
set_option maxHeartbeats 8000000
open Go.Proofs.Tryz
open Go renaming World->w_,Value->v_,Calls->k_
open Go.Ending renaming returned->r_
open Go.IntKind renaming i64->j_
open Go.Obj renaming cells->c_
open Go.RowKit renaming Below->B_,Hid->bN
open Go.Value renaming int->i_,slice->s_,bool->b_,agg->a_,pointer->p_
open Option renaming some->o_,none->n_
open Go renaming wp_at_succ->Kd,wp_at_zero->Kc
open Go.Proofs.Tryz renaming prog->J3,underlying3->QY
open List renaming nil_append->Ll
open Nat renaming mod_lt->adN

open Go.RowKit
namespace Go.Proofs.YtckenjkcmajicaaGreat
section
open Go.RowKit Go.Maps Go.Sort Go.Shelf
def wB (mb:Option Nat) (W:w_):k_ J3 118 #[.map mb] W fun e w'=>e=r_ (.func (.func 156) #[] #[p_ (o_ ⟨W.heap.size,0,n_⟩)])/\w'=W.alloc (c_ #[.map mb] 102):=
 (LO (n:=5)).1 (RC Tryz.keysProc Fence.wide 5 trivial rfl mb W)
def qx (Bm b:Nat) (m:df) (W:w_) (hBm:Bm < W.heap.size) (hc:W.cell? ⟨Bm,0,n_⟩=o_ (.map (o_ b))) (h:cF W b m) (hm:m.length<=1048576):
  k_ J3 39 #[.func (.func 156) #[] #[p_ (o_ ⟨Bm,0,n_⟩)]] W fun e w'=> ∃ v:v_,e=r_ v/\w'.ownsRow W.heap.size 2 1 v m.length (m.map fun p=> i_ j_ p.1)/\B_ W.heap.size W w':=by
 have hsz:Maps.size (gA m)=m.length:=size_map m;have hseq:SeqGives Fence.wide 2 J3 156 #[p_ (o_ ⟨Bm,0,n_⟩)] encZ (fun ss=>ss.Perm (intKeys (gA m))) (Maps.size (gA m)) W:=
  RD (ρ:=Tryz.keysProc_ren) { Tryz.keysProc with } Fence.wide _ trivial rfl zw Bm b m.length (gA m) W hBm hc h.1
 have cS:=RE Tryz.sortedA Fence.wide 5 trivial trivial trivial trivial rfl zw (Tryz.sortsA _) (LP func54 ZbY rfl) 156 #[p_ (o_ ⟨Bm,0,n_⟩)] trivial (LP func156 ZbY rfl) _ _ (by rw [hsz]; unfold maxLen; omega) (by rw [hsz]; omega) _ hseq
 change CallsIn _ _ J3 39 _ _ _ at cS
 refine (LO.1 cS).mono ?_;rintro e w' ⟨v,ss,rfl,hS,hrow,hnil,kj⟩;refine ⟨v,rfl,?_,kj⟩;rw [jG h.2 hS] at hrow;have hl:ss.length=m.length:=by
  rw [hS.length_eq,lU,KG]
 rw [hl,Lv] at hrow;exact hrow
def sQ:(Tryz.prog.info? 161).map (fun i=>(i.zero,i.size,i.bytes))=o_ (o_ (p_ n_),1,8):=by kernel_rfl
def mq (Me:Int) (b:Nat) (m:df) (w:w_) (h:cF w b m) (hm:m.length<=1048576) (hwf: ∀ p∈m,(Lit.int j_ p.1).wf=true):
  k_ J3 77 #[a_ #[i_ j_ Me,.map (o_ b)]] w fun e w'=> ∃ a cap,e=r_ (s_ a m.length cap)/\w'.ownsRow w.heap.size 161 1 (s_ a m.length cap) m.length (m.map fun p=>dt p.2)/\B_ w.heap.size w w':=by
 obtain ⟨i0,hi,e0⟩:=Kw.1 sQ;simp only [Kx] at e0;have HI:bN (_/\_/\_/\_):=⟨hi,e0⟩
 have HM:bN (cF w b m/\ ∀ p∈m,(Lit.int j_ p.1).wf=true):=⟨h,hwf⟩
 have hbl:b < w.heap.size:=h.lt;clear hi e0 h hwf
 go_enter func77,ntmps77
 go_wp2_with (go_at_call 118; refine (wB _ _).mono ?_; rintro e w' ⟨rfl,rfl⟩);refine (qx (w.heap.size+1) b m _ zy zy (HM.I.1.below (((Kp _ w).alloc (Ki _) _).alloc zy _)) hm).mono ?_;rintro e w2 ⟨v,rfl,hown,hb2⟩;have cy:bN (B_ w.heap.size w w2):=(((Kp _ w).alloc (Ki _) _).alloc zy _).trans (hb2.mono ZbZ);have HS:bN (w2.heap[w.heap.size]? =o_ (c_ #[i_ j_ Me,.map (o_ b)] 104)):=(hb2.block _ ZbZ).trans ((((Kp _ _).alloc (Ki _) _).block _ zy).trans (Kj _ _));obtain ⟨a,cap,hv,hrow⟩:=cr hown;have HR:bN (Row w2 a (m.map fun p=> i_ j_ p.1)):=hrow;rw [hv];clear hv hown hrow hb2 v;go_wp2_with fail;have Zc:=underlying102;have YC:=underlying159;have anF:=oD
 go_loopw [3,11] (fun l i wr=> ∃ k:Nat,k<=m.length/\i=i_ j_ k/\ ∃ a' cap',l=s_ a' k cap'/\bN (anZ 161 w2 m k a' cap' wr)) (fun _ i _=>m.length - (intOf i).toNat)
 case atStart=>exact ⟨0,Ky _,rfl,n_,0,rfl,⟨Ke _ _ _ _,Kp _ _⟩⟩
 case round=>
  obtain ⟨k,hk,rfl,a',cap',rfl,HO⟩:=hrel;by_cases hlt:k < m.length
  .have qE:(0:Int)<=(k:Int):=zw
   have i1:(k:Int) < (m.length:Int):=zw
   obtain ⟨p,hp⟩: ∃ p,m[k]? =o_ p:=⟨_,Kz hlt⟩
   have hpm:=KA hp;obtain ⟨g,ha,hc⟩:=(HR.I.below HO.I.2) k (i_ j_ p.1) (by simp [hp]);subst ha;have oE:=cy.I.size;have kT:=HO.I.2.size;have ut:cF wr b m:=HM.I.1.below (cy.I.trans (HO.I.2.mono oE));have hlk:=ut.look Zc (anF wr) (HM.I.2 p hpm) false;rw [jI ut.2 hpm] at hlk;have hsw:=(HO.I.2.block _ (J2.1 HS.I).1).trans HS.I;have s1:wr.cell? ⟨w.heap.size,1,n_⟩=o_ (.map (o_ b)):=by simp [World.cell?,hsw]
   have HP:bN (m[k]? =o_ p):=hp;simp only [qz,dt,J5,if_false] at hlk;clear hp hpm ut hsw;go_wp2_with (at_builtin; refine KD _ rfl _ _ _ rfl w2.heap.size _ i0 (p_ n_) 1 8 YC HI.I.1 HI.I.2.1 HI.I.2.2.1 HI.I.2.2.2 rfl (by decide) (s_ a' k cap') k ((m.take k).map fun p=>dt p.2) rfl (HO.I.1.alloc _) ⟨wr.heap.size,0,n_⟩ 1 1 [p_ (o_ ⟨p.2,0,n_⟩)] (by rfl) rfl (KE (cs:= #[p_ (o_ ⟨p.2,0,n_⟩)]) (fr:=(0,0)) (Kj wr _)) Zcy Zb9 zw ZbZ ?_; intro v' w5 hown' hgrow hnil jV; obtain ⟨a5,im,rfl,-⟩:=cr hown'; have HN:bN (anZ _ w2 m (k+1) a5 im w5):=⟨by rw [cj HP.I,Kl]; exact hown',(HO.I.2.alloc kT _).grown hgrow ZbZ (fun q hq=>(HO.I.1.lt q hq).1)⟩; clear hown' hgrow hnil jV);go_roundw
   case rel=>exact ⟨k+1,zw,by go_num,a5,im,rfl,HN⟩
   case measure=>simp [intOf]; omega
  .have i1: ¬ (k:Int) < (m.length:Int):=zw
   have e:k=m.length:=zw
   subst e;go_wp2;go_ret;refine ⟨a',cap',rfl,?_,cy.I.trans (HO.I.2.mono cy.I.size)⟩
   have:=cq HO.I.1 cy.I.size
   rwa [LQ] at this
end
section
open Go.Maps
structure kX (w W:w_) (o:Nat) (q:ol) (lp:List (ao × Nat)) (ms me mb mf:df):Prop where
 opn:fa W o q
 eh:Shelf aX (fun x:ao=>x.id) 125 W 0 q.bp lp
 ms:cF W q.bs ms
 me:cF W q.be me
 mb:cF W q.bb mb
 mf:cF W q.bf mf
 cd:B_ w.heap.size w W
def kX.below {w W W':w_} {o:Nat} {q:ol} {lp:List (ao × Nat)} {ms me mb mf:df} (h:kX w W o q lp ms me mb mf) (hb:B_ W.heap.size W W'):kX w W' o q lp ms me mb mf:=
 ⟨h.opn.below hb,h.eh.below hb,h.ms.below hb,h.me.below hb,h.mb.below hb,h.mf.below hb,h.cd.trans (hb.mono h.cd.size)⟩
def kX.has {w W:w_} {o:Nat} {q:ol} {lp:List (ao × Nat)} {ms me mb mf:df} (h:kX w W o q lp ms me mb mf) {p:ao × Nat} (hp:p∈lp):fu W W o p.2 q p.1 ms me mb mf:=
 ⟨h.opn,h.eh.box p hp,h.ms,h.me,h.mb,h.mf,Kp _ _⟩
structure ao.Wf (x:ao):Prop where
 id:(Lit.int j_ x.id).wf=true
 on:(Lit.int j_ x.on).wf=true
 RU:(Lit.int j_ x.RU).wf=true
def DE {lp:List (ao × Nat)} (h: ∀ p∈lp,p.1.Wf): ∀ p∈RW (fun x:ao=>x.id) lp,(Lit.int j_ p.1).wf=true:=fun p hp=>by
 obtain ⟨r,hr,rfl⟩:=Lr.1 hp;exact (h r hr).id
def Bh (o:Nat) (q:ol) (lp:List (ao × Nat)) (ms me mb mf:df) (w:w_) (h:kX w w o q lp ms me mb mf) (hl:lp.length<=1048576) (hwf: ∀ p∈lp,p.1.Wf):
  k_ J3 105 #[p_ (o_ ⟨o,0,n_⟩)] w fun e w'=>e=r_ (b_ (lp.all fun p=>fw ms me mb mf p.1))/\B_ w.heap.size w w':=by
 have H:bN (kX w w o q lp ms me mb mf/\ ∀ p∈lp,p.1.Wf):=⟨h,hwf⟩
 have c2:w.cell? ⟨o,2,n_⟩=o_ (i_ j_ 6):=h.opn.cell 2;have c3:w.cell? ⟨o,3,n_⟩=o_ (.map (o_ q.bp)):=h.opn.cell 3;have hkl:(RW (fun x:ao=>x.id) lp).length=lp.length:=bZ lp;have HK:bN ((RW (fun x:ao=>x.id) lp).length=lp.length):=hkl;clear h hwf hkl
 go_enter func105,ntmps105
 go_wp2_with fail;refine (mq 6 q.bp (RW (fun x:ao=>x.id) lp) w H.I.1.eh.map (by rw [HK.I]; exact hl) (DE H.I.2)).mono ?_;rintro e w2 ⟨a,cap,rfl,hown,hb2⟩;obtain ⟨a',cap',hv,hrow⟩:=cr hown;cases hv;have HR:bN (Row w2 a ((RW (fun x:ao=>x.id) lp).map fun p=>dt p.2)):=hrow;have HO:bN (kX w w2 o q lp ms me mb mf):=H.I.1.below hb2;rw [HK.I];clear hown hrow hb2 c2 c3;go_wp2_with fail
 go_loopw [11] (fun i wr=> ∃ k:Nat,k<=lp.length/\i=i_ j_ k/\bN (((lp.take k).all fun p=>fw ms me mb mf p.1)=true/\B_ w2.heap.size w2 wr)) (fun i _=>lp.length - (intOf i).toNat)
 case atStart=>exact ⟨0,Ky _,rfl,⟨by simp,Kp _ _⟩⟩
 case round=>
  obtain ⟨k,hk,rfl,HA⟩:=hrel;have HO2:bN (kX w wr o q lp ms me mb mf):=HO.I.below HA.I.2;by_cases hlt:k < lp.length
  .have i0:(0:Int)<=(k:Int):=zw
   have i1:(k:Int) < (lp.length:Int):=zw
   obtain ⟨p,hp⟩: ∃ p,lp[k]? =o_ p:=⟨_,Kz hlt⟩
   have hpm:=KA hp;obtain ⟨g,ha,hc⟩:=(HR.I.below HA.I.2) k (dt p.2) (by simp [RW,hp]);subst ha;unfold dt at hc;have HP:bN (lp[k]? =o_ p/\p∈lp):=⟨hp,hpm⟩
   clear hp hpm;go_wp2_with fail;refine (Ak o p.2 q p.1 ms me mb mf wr (HO2.I.has HP.I.2) (H.I.2 p HP.I.2).on).mono ?_;rintro e w4 ⟨rfl,hb4⟩;have HB4:bN (B_ w2.heap.size w2 w4):=HA.I.2.trans (hb4.mono HA.I.2.size);have HF4:bN (B_ w.heap.size w w4):=HO2.I.cd.trans (hb4.mono HO2.I.cd.size);clear hb4;cases FN:fw ms me mb mf p.1 with
   | true=>
    have HY:bN (((lp.take (k+1)).all fun p=>fw ms me mb mf p.1)=true):=by
     show _=true
     rw [cj HP.I.1,List.all_append,HA.I.1];simp [FN]
    clear FN;go_wp2;go_roundw
    case rel=>exact ⟨k+1,zw,by go_num,⟨HY.I,HB4.I⟩⟩
    case measure=>simp [intOf]; omega
   | false=>
    have HN:bN ((lp.all fun p=>fw ms me mb mf p.1)=false):=by
     show _=false
     rw [List.all_eq_false];exact ⟨p,HP.I.2,by simp [FN]⟩
    clear FN;go_wp2;go_ret;exact ⟨al HN.I.symm,HF4.I⟩
  .have i1: ¬ (k:Int) < (lp.length:Int):=zw
   have HT:bN ((lp.all fun p=>fw ms me mb mf p.1)=true):=by have:=HA.I.1; rwa [KF zw] at this
   go_wp2;go_ret;exact ⟨al HT.I.symm,HO2.I.cd⟩
end
section
open Go.Maps
attribute [local go_sem ↓] Kc Kd
def DV (w:World):(zeroValue 3).run J3 w= .ok (.int .i64 0) w:=by kernel_rfl
def hO (w:World) (b:Nat) (L:List Int):Prop:= ∃ D:DataW Unit,w.ownsMap J3 2 (plainElem J3 3) b L.length D/\IsMap D/\ ∀ z:Int,D.atKey (.int .i64 z) (.lit (.int .i64 0))= .lit (.int .i64 (if z∈L then 1 else 0))
def hO.none {w:World} {b:Nat} (hb:w.heap[b]? =some (.map #[] 0)):hO w b [] :=
 ⟨.map [],⟨#[],0,hb,⟨by simp,MapKept.stamped_empty 0,by simp⟩,by simp,rfl⟩,isMap_empty,fun z=>by simp [DataW.atKey]⟩
def hO.lt {w:World} {b:Nat} {L:List Int} (h:hO w b L):b < w.heap.size:=by obtain ⟨D,h,_⟩:=h; exact h.lt
def hO.same {w w':World} {b:Nat} {L:List Int} (h:hO w b L) (hs:w'.heap[b]? =w.heap[b]?):hO w' b L:=by
 obtain ⟨D,⟨es,clock,hb,r⟩,h2⟩:=h;exact ⟨D,⟨es,clock,hs.trans hb,r⟩,h2⟩
def hO.look {w:World} {b:Nat} {L:List Int} (h:hO w b L) {z:Int} (hz:(Lit.int .i64 z).wf=true):(Instr.lookup 250 (.map (some b)) (.int .i64 z) false).run J3 w= .ok (.int .i64 (if z∈L then 1 else 0)) w:=by
 obtain ⟨D,hown,_,hat⟩:=h;obtain ⟨c,hrun,hc,_⟩:=hown.lookup_int jb Tryz.underlying250 QY (DV w) (vX hz);rw [hat z] at hc;simp only [QZ,Q0,true_and] at hc;rw [hrun,hc]
def hO.put {w:World} {b:Nat} {L:List Int} (h:hO w b L) (hl:L.length<=1048576) {z:Int} (hz:(Lit.int .i64 z).wf=true) (v:Int) (hv:v=(if z∈L then 1 else 0)+1):
  ∃ w',(Instr.mapUpdate 250 (.map (some b)) (.int .i64 z) (.int .i64 v)).run J3 w= .ok () w'/\w.grownBy w' (some b)/\w'.heap.size=w.heap.size/\
   (∀ W:World,W.heap=w'.heap->(Instr.lookup 250 (.map (some b)) (.int .i64 z) false).run J3 W= .ok (.int .i64 v) W)/\(z∉L->hO w' b (L ++ [z])):=by
 obtain ⟨D,hown,hm,hat⟩:=h;have hvw:(Lit.int .i64 v).wf=true:=by
  subst hv
  split <;> decide
 obtain ⟨w',hrun,ho,ht⟩:=hown.store jb Tryz.underlying250 (Q5 hl (by decide)) (vX hz) (plainElem_int (H:=Unit) QY hvw);refine ⟨w',hrun,ht.grown,?_,fun W hW=> ?_,fun hn=>⟨_,by rw [Lf]; exact ho,hm.put _ _,fun y=> ?_⟩⟩
 .obtain ⟨es,clock,es',clock',hb,rfl⟩:=ht
  simp [ChangeMaps.setBlock]
 .have Hw:W.ownsMap J3 2 (plainElem J3 3) b (L.length+1) (D.put (.int .i64 z) (.lit (.int .i64 v))):=by
   obtain ⟨es,clock,hb,r⟩:=ho;exact ⟨es,clock,by rw [hW]; exact hb,r⟩
  obtain ⟨c,hr,hc,_⟩:=Hw.lookup_int jb Tryz.underlying250 QY (DV W) (vX hz);rw [atKey_put_same hm (jb.key (vX hz))] at hc;simp only [QZ,Q0,true_and] at hc;rw [hr,hc]
 .by_cases hy:y=z
  .subst hy
   rw [atKey_put_same hm (jb.key (vX hz))];simp [hv,hn]
  .rw [atKey_put_other (fun e=>hy (by simpa using e)),hat y]
   simp [hy]
def Cf (l:List (ao × Nat)):List Int:=Hu (l.map fun p=>p.1.toaD)
def km (next:Int) (l:List (ao × Nat)):Prop:=nQ next (l.map fun p=>p.1.toaD)
def we (l:List (ao × Nat)) (p:ao × Nat):Cf (l ++ [p])=Cf l ++ (if p.1.Md=0 then [] else [p.1.RU]):=by
 simp only [Cf,Hu,Kl,QN,Lt,QV,LN,List.filter_nil];by_cases h:p.1.Md=0 <;> simp [h]
def vx {next:Int} {l:List (ao × Nat)} {p:ao × Nat} (h:km next l) (hp: ¬ p.1.Md=0->1<=p.1.RU/\p.1.RU < next/\p.1.RU∉Cf l):km next (l ++ [p]):=by
 refine ⟨fun x hx=> ?_,?_⟩
 .rw [Kl] at hx
  rcases Kg.1 hx with hx | hx
  .exact h.1 x hx
  .simp only [Lt,QV,KB] at hx
   subst hx;exact fun h0=>⟨(hp h0).1,(hp h0).2.1⟩
 .have e:=we l p
  unfold Cf at e;rw [e];by_cases h0:p.1.Md=0
  .simp only [h0,if_true,QO]; exact h.2
  .simp only [h0,if_false]
   refine Kf.2 ⟨h.2,by simp,fun a ha b hb=> ?_⟩;simp only [KB] at hb;subst hb;intro e2;subst e2;exact (hp h0).2.2 ha
def rU {next:Int} {l:List (ao × Nat)} {k:Nat} {p:ao × Nat} (hp:l[k]? =some p) (h0: ¬ p.1.Md=0) (hb: ¬ (1<=p.1.RU/\p.1.RU < next/\p.1.RU∉Cf (l.take k))): ¬ km next l:=fun h=>by
 have hm:p.1.toaD∈l.map fun p=>p.1.toaD:=Lr.2 ⟨p,KA hp,rfl⟩
 have h1:=h.1 _ hm h0;refine hb ⟨h1.1,h1.2,fun hmem=> ?_⟩;have e:l=l.take k ++ p :: l.drop (k+1):=kL hp;have h2:=h.2;rw [e] at h2;simp only [Hu,Kl,Lt,QN,LN] at h2;have h0':(!decide (p.1.toaD.Md=0))=true:=by simp [h0]
 rw [if_pos h0',Lt] at h2;exact (Kf.1 h2).2.2 p.1.RU hmem p.1.RU zy rfl
def A6 (w:World) (q:ol) (lp:List (ao × Nat)) (e:Ending) (w':World):Prop:= ∃ ok:Bool,e= .returned (.bool ok)/\(ok=true↔km q.next lp)/\Below w.heap.size w w'
def kO {w w':World} {q:ol} {lp:List (ao × Nat)} (h: ¬ km q.next lp) (hb:Below w.heap.size w w'):A6 w q lp (.returned (.bool false)) w':=⟨false,rfl,⟨(fun h=>by cases h),fun h'=>absurd h' h⟩,hb⟩
structure rO (w w2 wr:World) (o:Nat) (q:ol) (lp:List (ao × Nat)) (L:List Int):Prop where
 taken:hO wr w.heap.size L
 grown:w2.grownBy wr (some w.heap.size)
def rO.block {w w2 wr:World} {o:Nat} {q:ol} {lp:List (ao × Nat)} {L:List Int} (h:rO w w2 wr o q lp L) {g:Nat} (hg:g < w2.heap.size) (hne: ¬ g=w.heap.size):wr.heap[g]? =w2.heap[g]? :=h.grown.block g hg (fun e=>hne (KC e))
def BI (o:Nat) (q:ol) (lp:List (ao × Nat)) (ms me mb mf:df) (w:World) (h:kX w w o q lp ms me mb mf) (hl:lp.length<=1048576) (hwf: ∀ p∈lp,p.1.Wf):
  Calls J3 104 #[.pointer (some ⟨o,0,none⟩)] w fun e w'=>A6 w q lp e w':=by
 have hmk:=run_makeMap (P:=J3) 250;have H:bN (kX w w o q lp ms me mb mf/\ ∀ p∈lp,p.1.Wf):=⟨h,hwf⟩
 have p7:o < w.heap.size:=(J2.1 h.opn).1;have c2:w.cell? ⟨o,2,none⟩=some (.int .i64 6):=h.opn.cell 2;have c3:w.cell? ⟨o,3,none⟩=some (.map (some q.bp)):=h.opn.cell 3;have HK:bN ((RW (fun x:ao=>x.id) lp).length=lp.length):=bZ lp;clear h hwf
 go_enter Tryz.func104,Tryz.ntmps104
 go_wp2_with fail;refine (mq 6 q.bp (RW (fun x:ao=>x.id) lp) (w.alloc (.map #[] 0)) (H.I.1.eh.map.below ((Kp _ w).alloc (Ki _) _)) (by rw [HK.I]; exact hl) (DE H.I.2)).mono ?_;rintro e w2 ⟨a,cap,rfl,hown,hb2⟩;obtain ⟨a',cap',hv,hrow⟩:=cr hown;cases hv;have HR:bN (Row w2 a ((RW (fun x:ao=>x.id) lp).map fun p=>dt p.2)):=hrow;have HRB:bN (∀ g,a=some ⟨g,0,none⟩->w.heap.size+1<=g/\g < w2.heap.size):=fun g hg=>by
  subst hg
  have:=hown.lt g rfl
  simpa using this
 have cy:bN (Below w.heap.size w w2):=((Kp _ w).alloc (Ki _) _).trans (hb2.mono zy);have Hz:bN (hO w2 w.heap.size []):=hO.none ((hb2.block _ zy).trans (Kj _ _));rw [HK.I];clear hown hrow hb2 c2 c3 hmk;go_wp2_with fail
 go_loopw [13] (fun i wr=> ∃ k:Nat,k<=lp.length/\i= .int .i64 k/\bN (km q.next (lp.take k)/\rO w w2 wr o q lp (Cf (lp.take k)))) (fun i _=>lp.length - (intOf i).toNat)
 case atStart=>exact ⟨0,Ky _,rfl,⟨⟨(fun x hx=>by simp at hx),by simp [Hu]⟩,⟨by simpa [Cf,Hu] using Hz.I,⟨rfl,rfl,rfl,Ki _,fun _ _ _=>rfl⟩⟩⟩⟩
 case round=>
  obtain ⟨k,hk,rfl,HA⟩:=hrel;have Ez:bN (Below w.heap.size w wr):=cy.I.grown HA.I.2.grown cy.I.size (fun k hk=>by cases hk; exact Ki _);by_cases hlt:k < lp.length
  .have i0:(0:Int)<=(k:Int):=zw
   have i1:(k:Int) < (lp.length:Int):=zw
   obtain ⟨p,hp⟩: ∃ p,lp[k]? =some p:=⟨_,Kz hlt⟩
   have hpm:=KA hp;have hrw:=HR.I k (dt p.2) (by simp [RW,hp]);obtain ⟨g,ha,hc0⟩:=hrw;have hgb:=HRB.I g ha;have hc:wr.cell? ⟨g,k,none⟩=some (.pointer (some ⟨p.2,0,none⟩)):=(J1 (w:=w2) (a:=⟨g,k,none⟩) (HA.I.2.block (g:=g) hgb.2 (fun e=>by have h1:=hgb.1; have e':g=w.heap.size:=e; omega))).trans hc0;subst ha;have lD:wr.heap[p.2]? =some (.cells (aX p.1) 125 (0,0)):=(Ez.I.block _ (J2.1 (H.I.1.eh.box p hpm)).1).trans (H.I.1.eh.box p hpm);have hob:fa wr o q:=(Ez.I.block _ p7).trans H.I.1.opn;have HP:bN (lp[k]? =some p/\p∈lp):=⟨hp,hpm⟩
   have HW:bN ((Lit.int .i64 p.1.RU).wf=true):=(H.I.2 p hpm).RU;have HX:bN (wr.heap[p.2]? =some (.cells (aX p.1) 125 (0,0))/\fa wr o q):=⟨lD,hob⟩
   have k3:=(bo lD).2.2.2.1;have k11:=(bo lD).2.2.2.2.2.2.2.2.2.2.2;have hls:(Cf (lp.take k)).length<=1048576:=by
    have h1:(Cf (lp.take k)).length<=(lp.take k).length:=by
     simp only [Cf,Hu,KG];exact LG (Qq _ _) zy
    rw [Lk] at h1;omega
   clear hp hpm hc0 hgb lD hob;by_cases h0:p.1.Md=0
   .have HY:bN (km q.next (lp.take (k+1))/\rO w w2 wr o q lp (Cf (lp.take (k+1)))):=by
     rw [cj HP.I.1];refine ⟨vx HA.I.1 (fun h=>absurd h0 h),?_⟩;rw [we,if_pos h0,QO];exact HA.I.2
    have e0:(p.1.Md == 0)=true:=by simp [h0]
    clear h0;go_wp2;go_roundw
    case rel=>exact ⟨k+1,zw,by go_num,HY⟩
    case measure=>simp [intOf]; omega
   .have e0:(p.1.Md == 0)=false:=by simp [h0]
    have H0:bN (¬ p.1.Md=0):=h0;clear h0;have hlk:=HA.I.2.taken.look HW.I;by_cases hz:p.1.RU∈Cf (lp.take k)
    .rw [if_pos hz] at hlk
     obtain ⟨w5,hput,wY,aaX,FJ,-⟩:=HA.I.2.taken.put hls HW.I 2 (by rw [if_pos hz]; rfl);have HN:bN (¬ km q.next lp):=rU HP.I.1 H0.I (fun hh=>hh.2.2 hz);have Dk:bN (Below w.heap.size w w5):=Ez.I.grown wY Ez.I.size (fun k hk=>by cases hk; exact Ki _);have hx5:w5.heap[p.2]? =some (.cells (aX p.1) 125 (0,0)):=(Dk.I.block _ (J2.1 (H.I.1.eh.box p HP.I.2)).1).trans (H.I.1.eh.box p HP.I.2);have oe:fa w5 o q:=(Dk.I.block _ p7).trans H.I.1.opn;have f11:=(bo hx5).2.2.2.2.2.2.2.2.2.2.2;have f1:w5.cell? ⟨o,1,none⟩=some (.int .i64 q.next):=oe.cell 1;have rL:=FJ w5.drew rfl;clear FJ wY aaX hx5 oe hz;by_cases hA:p.1.RU < 1
     .have dA:decide (p.1.RU < 1)=true:=decide_eq_true hA
      exact ZbN
     have dA:decide (p.1.RU < 1)=false:=decide_eq_false hA;by_cases hB:q.next<=p.1.RU
     .have dB:decide (q.next<=p.1.RU)=true:=decide_eq_true hB
      exact ZbQ
     have dB:decide (q.next<=p.1.RU)=false:=decide_eq_false hB;clear hA hB;go_wp2_with fail;refine aT (fun w'=>w'=w5.drew) ZbY rfl ?_
     iterate 25 (refine agj ?_)
     refine bk ZbY ?_ _;intro w1 cm;subst cm;go_wp2;go_ret;exact kO HN.I Dk.I.drew
    .rw [if_neg hz] at hlk
     obtain ⟨w5,hput,wY,aaX,FJ,htk⟩:=HA.I.2.taken.put hls HW.I 1 (by rw [if_neg hz]; rfl);have Dk:bN (Below w.heap.size w w5):=Ez.I.grown wY Ez.I.size (fun k hk=>by cases hk; exact Ki _);have EY:bN (rO w w2 w5 o q lp (Cf (lp.take k) ++ [p.1.RU])):=⟨htk hz,⟨wY.os.trans HA.I.2.grown.os,wY.tape.trans HA.I.2.grown.tape,wY.output.trans HA.I.2.grown.output,LG HA.I.2.grown.size wY.size,fun k hk hne=>(wY.block k (Kn hk HA.I.2.grown.size) hne).trans (HA.I.2.grown.block k hk hne)⟩⟩
     have HZ:bN (¬ p.1.RU∈Cf (lp.take k)):=hz;have hx5:w5.heap[p.2]? =some (.cells (aX p.1) 125 (0,0)):=(Dk.I.block _ (J2.1 (H.I.1.eh.box p HP.I.2)).1).trans (H.I.1.eh.box p HP.I.2);have oe:fa w5 o q:=(Dk.I.block _ p7).trans H.I.1.opn;have f11:=(bo hx5).2.2.2.2.2.2.2.2.2.2.2;have f1:w5.cell? ⟨o,1,none⟩=some (.int .i64 q.next):=oe.cell 1;have rL:=FJ w5.drew rfl;clear FJ wY aaX hx5 oe hz htk;by_cases hA:p.1.RU < 1
     .have dA:decide (p.1.RU < 1)=true:=decide_eq_true hA
      have HN:bN (¬ km q.next lp):=rU HP.I.1 H0.I (fun hh=>by have:=hh.1; omega);exact ZbN
     have dA:decide (p.1.RU < 1)=false:=decide_eq_false hA;by_cases hB:q.next<=p.1.RU
     .have dB:decide (q.next<=p.1.RU)=true:=decide_eq_true hB
      have HN:bN (¬ km q.next lp):=rU HP.I.1 H0.I (fun hh=>by have:=hh.2.1; omega);exact ZbQ
     have dB:decide (q.next<=p.1.RU)=false:=decide_eq_false hB;have HY:bN (km q.next (lp.take (k+1))/\rO w w2 w5 o q lp (Cf (lp.take (k+1)))):=by
      rw [cj HP.I.1];refine ⟨vx HA.I.1 (fun _=>⟨zw,zw,HZ.I⟩),?_⟩;rw [we,if_neg H0.I];exact EY.I
     clear hA hB;go_wp2_with fail;refine aT (fun w'=>w'=w5.drew) ZbY rfl ?_
     iterate 25 (refine agj ?_)
     refine bk ZbY ?_ _;intro w1 cm;subst cm;go_wp2;go_roundw
     case rel=>exact ⟨k+1,zw,by go_num,⟨HY.I.1,⟨HY.I.2.taken.same rfl,⟨HY.I.2.grown.os,HY.I.2.grown.tape,HY.I.2.grown.output,HY.I.2.grown.size,HY.I.2.grown.block⟩⟩⟩⟩
     case measure=>simp [intOf]; omega
  .have i1: ¬ (k:Int) < (lp.length:Int):=zw
   have HT:bN (km q.next lp):=by have:=HA.I.1; rwa [KF zw] at this
   go_wp2;go_ret;exact ⟨true,rfl,⟨fun _=>HT.I,fun _=>rfl⟩,Ez.I⟩
end
section
open Go.RowKit Go.Maps Go.Sort Go.Shelf



end
section
def sz (l:List pA) (j:Nat):Int:=match l[j / 3]? with
 | none=>0
 | some x=>if j % 3=0 then x.at_ else if j % 3=1 then x.len else x.part
def Vf (l:List pA) {j:Nat} (hj:j < l.length * 3):(jq.flat l)[j]? =o_ (i_ j_ (sz l j)):=by
 have hd:j / 3 < l.length:=zw
 obtain ⟨x,hx⟩: ∃ x,l[j / 3]? =o_ x:=⟨_,Kz hd⟩
 have h:=jq.jw hx (j:=j % 3) (adN _ (by decide));have e:j / 3 * jq.n+j % 3=j:=by show j / 3 * 3+j % 3=j; omega
 rw [e] at h;rw [h];unfold sz;rw [hx];have h3:j % 3 < 3:=adN _ (by decide);rcases (by omega:j % 3=0\/j % 3=1\/j % 3=2) with e | e | e <;> rw [e] <;> rfl
def Uq {w:w_} {g:Nat} {l:List pA} (hg:g < w.heap.size) (h:jq.bU w (o_ ⟨g,0,n_⟩) l):lT w g l.length (sz l):=by
 refine ⟨hg,fun j hj=> ?_⟩;obtain ⟨g',e,hc⟩:=h.1 j _ (Vf l hj);cases e;exact hc
def E4 (major:Int) (l:List pA):Bool:=nn major l.length (sz l)
def hP {α:Type} (num:α->Int) (id:Int) (l:List α):Option α:=l.find? fun x=>decide (num x=id)
def endP (ps:List aE) (part port:Int):Option dS:=(hP (·.id) part ps).bind fun p=>hP (·.id) port p.ai
def pa (ps:List aE) (c:eQ):Bool:=match endP ps c.src c.ga,endP ps c.dst c.hI with
 | some q,o_ r=> !decide (c.src=c.dst) && q.I && !r.I && (q.Mf == r.Mf)
 | _,_=>false
def zo (ps:List aE) (c:eQ):Bool:=match endP ps c.src c.ga with
 | some q=>q.Mf
 | none=>false
def hR (ps:List aE) (c d:eQ):Bool:=decide (d.dst=c.dst) && decide (d.hI=c.hI) || decide (d.src=c.src) && decide (d.ga=c.ga) && zo ps c
def fA (ps:List aE):List eQ->List eQ->Bool
 | _,[] =>true
 | l,c :: r=>pa ps c && !l.any (hR ps c) && fA ps (l ++ [c]) r
def eP (k:kd):Bool:=cv k.bj 0 500000000 && E4 k.major k.fn && decide (k.parts.length<=6) && decide (k.eC.length<=10) && aw (·.id) bK 0 k.parts && fA k.parts [] k.eC
section
variable {ps:List aE}
def st: ∀ (m l r:List eQ),fA ps m (l ++ r)=(fA ps m l && fA ps (m ++ l) r)
 | m,[],r=>by simp [fA]
 | m,c :: l,r=>by
  simp only [List.cons_append,fA];rw [st (m ++ [c]) l r];simp [Bool.and_assoc]
def Tz {l:List eQ} {k:Nat} {c:eQ} (h:fA ps [] (l.take k)=true) (hc:l[k]? =o_ c) (h1:pa ps c=true) (h2:(l.take k).any (hR ps c)=false):fA ps [] (l.take (k+1))=true:=by
 have e:l.take (k+1)=l.take k ++ [c] :=by rw [List.take_add_one,hc]; rfl
 rw [e,st,h,Ll];simp [fA,h1,h2]
def kq {l:List eQ} {k:Nat} {c:eQ} (hc:l[k]? =o_ c) (h:pa ps c=false\/(l.take k).any (hR ps c)=true):fA ps [] l=false:=by
 have hk:k < l.length:=(Lj.1 hc).1;have e:l=l.take k ++ c :: l.drop (k+1):=by
  have h1:=Qn k l;rw [adH hk] at h1;rw [Kz hk] at hc;cases hc;exact h1.symm
 rw [e,st,Ll];simp only [fA];rcases h with h | h <;> simp [h]
end
def ua {α:Type} {num:α->Int} (id:Int): ∀ (l:List α) (k:Nat),(place (l.map num) id k= -1/\hP num id l=n_)\/ ∃ n x,place (l.map num) id k=((k+n:Nat):Int)/\l[n]? =o_ x/\num x=id/\hP num id l=o_ x
 | [],k=> .inl ⟨rfl,rfl⟩
 | y :: r,k=>by
  by_cases h:num y=id
  .exact .inr ⟨0,y,by simp [place,h],rfl,h,by simp [hP,h]⟩
  .rcases ua id r (k+1) with ⟨h1,h2⟩ | ⟨n,x,h1,h2,h3,h4⟩
   .exact .inl ⟨by simpa [place,h] using h1,by simp only [hP] at h2 ⊢; simpa [h] using h2⟩
   .exact .inr ⟨n+1,x,by simp only [Lt,place,h,if_false]; rw [h1]; congr 1; omega,by simpa using h2,h3,by simp only [hP] at h4 ⊢; simpa [h] using h4⟩
end
section
attribute [local go_sem ↓] Kc Kd
def ij (p:af) (st on:Int) (w:w_) (hl:p.L8.length<=1048576) (h:af.At w p):
  k_ J3 171 #[a_ p.cells,i_ j_ st,i_ j_ on] w fun e w'=>(∃ i:Int,e=r_ (i_ j_ i)/\dO (fun x:aD=>decide (x.Md=st) && decide (x.on=on)) p.pure.L8 p.L8.length i)/\B_ w.heap.size w w':=by
 have HB:bN (av (w.alloc (c_ p.cells 46)) w.heap.size p/\af.At (w.alloc (c_ p.cells 46)) p/\B_ w.heap.size w (w.alloc (c_ p.cells 46))):=⟨Kj _ _,h.below ((Kp _ _).alloc (Ki _) _),(Kp _ _).alloc (Ki _) _⟩
 clear h;unfold af.cells at *
 go_enter func171,ntmps171
 go_wp2_with fail;generalize w.alloc (c_ p.row 46)=W at *
 go_loopw [7,8] (fun b i wr=> ∃ (k:Nat) (z:Int),k<=p.L8.length/\i=i_ j_ k/\b=i_ j_ z/\bN (dO (fun x:aD=>decide (x.Md=st) && decide (x.on=on)) p.pure.L8 k z/\B_ W.heap.size W wr)) (fun _ i _=>p.L8.length - (intOf i).toNat)
 case atStart=>exact ⟨0,-1,Ky _,rfl,rfl,⟨dO.start _ _,Kp _ _⟩⟩
 case round=>
  obtain ⟨k,z,hk,rfl,rfl,HA⟩:=hrel;have HW:bN (av wr w.heap.size p/\af.At wr p/\B_ w.heap.size w wr):=⟨HB.I.1.below HA.I.2,HB.I.2.1.below HA.I.2,HB.I.2.2.trans (HA.I.2.mono HB.I.2.2.size)⟩
  obtain ⟨-,-,m2,-⟩:=HW.I.1.cells;by_cases hlt:k < p.L8.length
  .have i0:(0:Int)<=(k:Int):=zw
   have i1:(k:Int) < (p.L8.length:Int):=zw
   obtain ⟨x,hx⟩: ∃ x,p.L8[k]? =o_ x:=⟨_,Kz hlt⟩
   have HX:bN (p.L8[k]? =o_ x/\p.pure.L8[k]? =o_ x.toaD):=⟨hx,by show (p.L8.map (·.toaD))[k]? =_; rw [Kk,hx]; rfl⟩
   obtain ⟨gs,ha,hat⟩:=cn HW.I.2.1.1 hx;have HG:bN (p.aN=o_ ⟨gs,0,n_⟩):=ha;rw [ha] at m2;obtain ⟨d0,d1,d2,d3,d4,d5,d6,d7,d8,d9,tH,tS⟩:=hat;clear hx ha;have hgl:w.heap.size < wr.heap.size:=(J2.1 HW.I.1).1;have HN:bN (av (wr.alloc (c_ x.row 125)) w.heap.size p/\af.At (wr.alloc (c_ x.row 125)) p/\jx (wr.alloc (c_ x.row 125)) wr.heap.size x/\B_ W.heap.size W (wr.alloc (c_ x.row 125))):=⟨HW.I.1.below ((Kp _ _).alloc (Ki _) _),HW.I.2.1.below ((Kp _ _).alloc (Ki _) _),Kj _ _,HA.I.2.alloc HA.I.2.size _⟩
   by_cases hs:x.Md=st
   .by_cases ho:x.on=on
    .have HF:bN ((fun x:aD=>decide (x.Md=st) && decide (x.on=on)) x.toaD=true):=by show _=true; simp [hs,ho]
     have e1:(x.Md != st)=false:=by simp [hs]
     have e2:(x.on != on)=false:=by simp [ho]
     clear hs ho;go_wp2_with fail;generalize wr.alloc (c_ x.row 125)=W5 at *;generalize wr.heap.size=X at *;clear d0 d1 d2 d3 d4 d5 d6 d7 d8 d9 tH tS m2 e1 e2 hgl;obtain ⟨-,-,m2,-⟩:=HN.I.1.cells;rw [HG.I] at m2;obtain ⟨-,b1,-,-,-,-,-,-,-,-,-,b11⟩:=HN.I.2.2.1.cells;by_cases hz:z < 0
     .have afO:decide (z < 0)=true:=decide_eq_true hz
      have HY:bN (dO (fun x:aD=>decide (x.Md=st) && decide (x.on=on)) p.pure.L8 (k+1) k):=HA.I.1.first hz HX.I.2 HF.I;refine aT (fun w'=>w'=W5.drew) ZbY rfl ?_
      iterate 3 (refine agj ?_)
      iterate 9 (refine ty (o_ _) rfl rfl ZbY (fun _ _ _ h=>h) (np ZbY) ?_; simp only [pt,sb,s0,s1])
      iterate 2 (refine agj ?_)
      exact ZbP
     have afO:decide (z < 0)=false:=decide_eq_false hz;obtain ⟨n,y0,hzn,hn,hy0,hbe⟩:=HA.I.1.got hz;subst hzn;have Fm:bN (dO (fun x:aD=>decide (x.Md=st) && decide (x.on=on)) p.pure.L8 (k+1) (if dF x.toaD y0 then (k:Int) else (n:Int))):=dO.next hn hy0 hbe HX.I.2 HF.I;obtain ⟨y,hy,rfl⟩: ∃ y,p.L8[n]? =o_ y/\y.toaD=y0:=by
      have h5:(p.L8.map (·.toaD))[n]? =o_ y0:=hy0;rw [Kk,Kw] at h5;exact h5
     have j0:(0:Int)<=(n:Int):=zw
     have j1:(n:Int) < (p.L8.length:Int):=zw
     obtain ⟨gs2,ha2,g8⟩:=cn HN.I.2.1.1 hy;rw [HG.I] at ha2;cases ha2;obtain ⟨-,y1,-,-,-,-,-,-,-,-,-,y11⟩:=g8;clear hy hy0 hbe hz;by_cases hp:y.RX < x.RX
     .have dp:decide (y.RX < x.RX)=true:=decide_eq_true hp
      have HY:bN (dO (fun x:aD=>decide (x.Md=st) && decide (x.on=on)) p.pure.L8 (k+1) k):=by have h5:=Fm.I; rwa [show dF x.toaD y.toaD=true by unfold dF; rw [if_neg (by intro e; have e2:x.RX=y.RX:=e; omega)]; exact decide_eq_true hp,if_pos rfl] at h5
      clear hp Fm;refine aT (fun w'=>w'=W5.drew) ZbY rfl ?_
      iterate 14 (refine agj ?_)
      exact ZbP
     have dp:decide (y.RX < x.RX)=false:=decide_eq_false hp;by_cases hq:x.RX=y.RX
     .have dq:(x.RX == y.RX)=true:=by simp [hq]
      by_cases hr:x.RU < y.RU
      .have ya:decide (x.RU < y.RU)=true:=decide_eq_true hr
       have HY:bN (dO (fun x:aD=>decide (x.Md=st) && decide (x.on=on)) p.pure.L8 (k+1) k):=by have h5:=Fm.I; rwa [show dF x.toaD y.toaD=true by unfold dF; rw [if_pos hq]; exact ya,if_pos rfl] at h5
       clear hp hr Fm hq;refine aT (fun w'=>w'=W5.drew) ZbY rfl ?_
       iterate 35 (refine agj ?_)
       exact E_
      .have ya:decide (x.RU < y.RU)=false:=decide_eq_false hr
       have HY:bN (dO (fun x:aD=>decide (x.Md=st) && decide (x.on=on)) p.pure.L8 (k+1) n):=by have h5:=Fm.I; rwa [show dF x.toaD y.toaD=false by unfold dF; rw [if_pos hq]; exact ya,if_neg Bool.false_ne_true] at h5
       clear hp hr Fm hq;refine aT (fun w'=>w'=W5.drew) ZbY rfl ?_
       iterate 35 (refine agj ?_)
       exact Zah
     .have dq:(x.RX == y.RX)=false:=by simp [hq]
      have HY:bN (dO (fun x:aD=>decide (x.Md=st) && decide (x.on=on)) p.pure.L8 (k+1) n):=by have h5:=Fm.I; rwa [show dF x.toaD y.toaD=false by unfold dF; rw [if_neg hq]; exact dp,if_neg Bool.false_ne_true] at h5
      clear hp Fm hq;refine aT (fun w'=>w'=W5.drew) ZbY rfl ?_
      iterate 24 (refine agj ?_)
      iterate 9 (refine ty (o_ _) rfl rfl ZbY (fun _ _ _ h=>h) (np ZbY) ?_; simp only [pt,sb,s0,s1])
      iterate 2 (refine agj ?_)
      exact Zah
    .have HY:bN (dO (fun x:aD=>decide (x.Md=st) && decide (x.on=on)) p.pure.L8 (k+1) z):=HA.I.1.skip HX.I.2 (by simp [ho])
     have e1:(x.Md != st)=false:=by simp [hs]
     have e2:(x.on != on)=true:=by simp [ho]
     clear hs ho;exact ZaW
   .have HY:bN (dO (fun x:aD=>decide (x.Md=st) && decide (x.on=on)) p.pure.L8 (k+1) z):=HA.I.1.skip HX.I.2 (by simp [hs])
    have e1:(x.Md != st)=true:=by simp [hs]
    clear hs;exact ZaW
  .have i1: ¬ (k:Int) < (p.L8.length:Int):=zw
   have HE:bN (dO (fun x:aD=>decide (x.Md=st) && decide (x.on=on)) p.pure.L8 p.L8.length z):=by have h5:=HA.I.1; rwa [show k=p.L8.length by omega] at h5
   go_wp2;go_ret;exact ⟨⟨z,rfl,HE.I⟩,HW.I.2.2⟩
end
section
open Go.RowKit Go.Maps Go.Sort Go.Shelf

end
section
def X0 (cs:List eQ) (q:eQ->Bool) (P:Int->Prop):Prop:= ∀ c∈cs,(P c.dst->P c.src)/\(q c=true->P c.src->P c.dst)
def XT (cs:List eQ) (q:eQ->Bool) (part i:Int):Prop:= ∀ P:Int->Prop,P part->X0 cs q P->P i
section
variable {cs:List eQ} {q:eQ->Bool} {part:Int}
def XA:XT cs q part part:=fun _ h _=>h
def Yi {c:eQ} (hc:c∈cs) (h:XT cs q part c.dst):XT cs q part c.src:=fun P h1 h2=>(h2 c hc).1 (h P h1 h2)
def XV {c:eQ} (hc:c∈cs) (hq:q c=true) (h:XT cs q part c.src):XT cs q part c.dst:=fun P h1 h2=>(h2 c hc).2 hq (h P h1 h2)
def Yh {l:List Int} (h0:part∈l) (h1: ∀ i∈l,XT cs q part i) (h2:X0 cs q (· ∈l)) (i:Int):i∈l↔XT cs q part i:=⟨h1 i,fun h=>h _ h0 h2⟩
structure XO (cs:List eQ) (q:eQ->Bool) (part:Int) (l:List Int):Prop where
 mem: ∀ i,i∈l↔XT cs q part i
 kW:l.Pairwise (· < ·)
end
def XU: ∀ {l m:List Int},l.Pairwise (· < ·)->m.Pairwise (· < ·)->(∀ i,i∈l↔i∈m)->l=m
 | [],[],_,_,_=>rfl
 | [],y :: m,_,_,h=>by have:=(h y).2 zy; cases this
 | x :: l,[],_,_,h=>by have:=(h x).1 zy; cases this
 | x :: l,y :: m,h1,h2,h=>by
  obtain ⟨a1,a2⟩:=LM.1 h1;obtain ⟨b1,b2⟩:=LM.1 h2;have e:x=y:=by
   rcases Kt.1 ((h x).1 zy) with e | hx
   .exact e
   .rcases Kt.1 ((h y).2 zy) with e | hy
    .exact e.symm
    .have:=a1 y hy; have:=b1 x hx; omega
  subst e;rw [XU a2 b2 fun i=>⟨fun hi=> ?_,fun hi=> ?_⟩]
  .rcases Kt.1 ((h i).1 (by simp [hi])) with e | hm
   .subst e; have:=a1 i hi; omega
   .exact hm
  .rcases Kt.1 ((h i).2 (by simp [hi])) with e | hm
   .subst e; have:=b1 i hi; omega
   .exact hm
def Yo {cs:List eQ} {q:eQ->Bool} {part:Int} {l m:List Int} (h:XO cs q part l) (h':XO cs q part m):l=m:=XU h.kW h'.kW fun i=>(h.mem i).trans (h'.mem i).symm
def Xo {k:kd} (h:eP k=true):(k.parts.map (·.id)).Pairwise (· < ·)/\k.parts.length<=6/\k.eC.length<=10/\ ∀ c∈k.eC,pa k.parts c=true:=by
 simp only [eP,J7,decide_eq_true_eq] at h;refine ⟨?_,h.1.1.1.2,h.1.1.2,?_⟩
 .have key: ∀ (l:List aE) (last:Int),aw (·.id) bK last l=true->(l.map (·.id)).Pairwise (· < ·)/\ ∀ x∈l,last < x.id:=by
   intro l
   induction l with
   | nil=>exact fun _ _=>⟨List.Pairwise.nil,fun x hx=>by cases hx⟩
   | cons x r ih=>
    intro last h;simp only [aw,J7,decide_eq_true_eq] at h;obtain ⟨h1,h2⟩:=ih _ h.2;refine ⟨List.Pairwise.cons (fun y hy=> ?_) h1,fun y hy=> ?_⟩
    .obtain ⟨z,hz,rfl⟩:=Lr.1 hy
     exact h2 z hz
    .rcases Kt.1 hy with rfl | hy
     .exact h.1.1.2
     .have:=h2 y hy; have:=h.1.1.2; omega
  exact (key _ _ h.1.2).1
 .have key: ∀ (r m:List eQ),fA k.parts m r=true-> ∀ c∈r,pa k.parts c=true:=by
   intro r
   induction r with
   | nil=>intro m _ c hc; cases hc
   | cons x r ih=>
    intro m h c hc;simp only [fA,J7] at h;rcases Kt.1 hc with rfl | hc
    .exact h.1.1
    .exact ih _ h.2 c hc
  exact key _ _ h.2
def Yr {ps:List aE} {part port:Int} {x:dS} (h:endP ps part port=o_ x):part∈ps.map (·.id):=by
 unfold endP at h;cases hf:hP (fun p:aE=>p.id) part ps with
 | none=>rw [hf] at h; cases h
 | some p=>exact Lr.2 ⟨p,List.mem_of_find?_eq_some hf,by have:=List.find?_some hf; simpa using this⟩
def XQ {ps:List aE} {c:eQ} (h:pa ps c=true):c.src∈ps.map (·.id)/\c.dst∈ps.map (·.id):=by
 unfold pa at h;cases h1:endP ps c.src c.ga with
 | none=>rw [h1] at h; simp at h
 | some x=>
  cases h2:endP ps c.dst c.hI with
  | none=>rw [h1,h2] at h; simp at h
  | some y=>exact ⟨Yr h1,Yr h2⟩
def XY {k:kd} {q:eQ->Bool} {part i:Int} (h:eP k=true) (hp:part∈k.parts.map (·.id)) (hr:XT k.eC q part i):i∈k.parts.map (·.id):=
 hr (· ∈k.parts.map (·.id)) hp fun c hc=>⟨fun _=>(XQ ((Xo h).2.2.2 c hc)).1,fun _ _=>(XQ ((Xo h).2.2.2 c hc)).2⟩
def Xs: ∀ {l m:List Int},l.Nodup->(∀ i∈l,i∈m)->l.length<=m.length
 | [],_,_,_=>Ky _
 | x :: l,m,h,hs=>by
  obtain ⟨h1,h2⟩:=Lp.1 h;have hx:=hs x zy
  have:=Xs (m:=m.erase x) h2 fun i hi=>(List.mem_erase_of_ne (fun e=>h1 (by rw [<- e]; exact hi))).2 (hs i (by simp [hi]))
  rw [List.length_erase_of_mem hx] at this
  have:=List.length_pos_of_mem hx
  simp only [List.length_cons];omega
end
end Go.Proofs.YtckenjkcmajicaaGreat
