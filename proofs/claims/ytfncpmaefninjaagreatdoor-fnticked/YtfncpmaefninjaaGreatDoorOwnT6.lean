/- What the proof leans on, part 6. -/
import Derived.Test.YtfncpmaefninjaaGreatDoorOwnT3
import Derived.Test.YtfncpmaefninjaaGreatDoorOwnT4
set_option linter.all false
set_option maxRecDepth 100000
set_option maxHeartbeats 8000000
open Go.Proofs.Tryz
open Go renaming World->w_,Value->v_,Calls->k_,Addr->d_
open Go.Ending renaming returned->r_
open Go.IntKind renaming i64->j_
open Go.Obj renaming cells->c_
open Go.RowKit renaming Below->B_,Hid->bE
open Go.Value renaming int->i_,slice->s_,bool->b_,agg->a_,pointer->p_,tuple->u_
open Option renaming some->o_,none->n_
open Go renaming wp_at_succ->Kd,wp_at_zero->Kc
open Go.Proofs.Tryz renaming prog->J3,underlying3->QY
open Option renaming map_some->J9

open Go.RowKit
namespace Go.Proofs.YtfncpmaefninjaaGreatDoor
section
open Go.RowKit Go.Maps Go.Sort Go.Shelf
def wB (mb:Option Nat) (W:w_):k_ J3 136 #[.map mb] W fun e w'=>e=r_ (.func (.func 177) #[] #[p_ (o_ ⟨W.heap.size,0,n_⟩)])/\w'=W.alloc (c_ #[.map mb] 67):=
 (LO (n:=5)).1 (RC Tryz.keysProc Fence.wide 5 trivial rfl mb W)
def qx (Bm b:Nat) (m:df) (W:w_) (hBm:Bm < W.heap.size) (hc:W.cell? ⟨Bm,0,n_⟩=o_ (.map (o_ b))) (h:cF W b m) (hm:m.length<=1048576):
  k_ J3 135 #[.func (.func 177) #[] #[p_ (o_ ⟨Bm,0,n_⟩)]] W fun e w'=> ∃ v:v_,e=r_ v/\w'.ownsRow W.heap.size 2 1 v m.length (m.map fun p=> i_ j_ p.1)/\B_ W.heap.size W w':=by
 have hsz:Maps.size (gA m)=m.length:=size_map m;have hseq:SeqGives Fence.wide 2 J3 177 #[p_ (o_ ⟨Bm,0,n_⟩)] encZ (fun ss=>ss.Perm (intKeys (gA m))) (Maps.size (gA m)) W:=
  RD (ρ:=Tryz.keysProc_ren) { Tryz.keysProc with } Fence.wide _ trivial rfl zo Bm b m.length (gA m) W hBm hc h.1
 have cS:=RE Tryz.sortedA Fence.wide 5 trivial trivial trivial trivial rfl zo (Tryz.sortsA _) (LP func176 ZcE rfl) 177 #[p_ (o_ ⟨Bm,0,n_⟩)] trivial (LP func177 ZcE rfl) _ _ ZcY Zdh _ hseq
 exact ir
def sQ:(Tryz.prog.info? 64).map (fun i=>(i.zero,i.size,i.bytes))=o_ (o_ (p_ n_),1,8):=by kernel_rfl
def mq (Me:Int) (b:Nat) (m:df) (w:w_) (h:cF w b m) (hm:m.length<=1048576) (hwf: ∀ p∈m,(Lit.int j_ p.1).wf=true):
  k_ J3 101 #[a_ #[i_ j_ Me,.map (o_ b)]] w fun e w'=> ∃ a cap,e=r_ (s_ a m.length cap)/\w'.ownsRow w.heap.size 64 1 (s_ a m.length cap) m.length (m.map fun p=>dt p.2)/\B_ w.heap.size w w':=by
 obtain ⟨i0,hi,e0⟩:=Kw.1 sQ;simp only [Kx] at e0;have HI:bE (Tryz.prog.info? 64=o_ i0/\i0.zero=o_ (p_ n_)/\i0.size=1/\i0.bytes=8):=⟨hi,e0⟩
 have HM:bE (cF w b m/\ ∀ p∈m,(Lit.int j_ p.1).wf=true):=⟨h,hwf⟩
 have hbl:b < w.heap.size:=h.lt;clear hi e0 h hwf
 go_enter func101,ntmps101
 go_wp2_with (go_at_call 136; refine (wB _ _).mono ?_; rintro e w' ⟨rfl,rfl⟩);refine (qx (w.heap.size+1) b m _ zw zw (HM.I.1.below (((Kp _ w).alloc (Ki _) _).alloc zw _)) hm).mono ?_;rintro e w2 ⟨v,rfl,hown,hb2⟩;have cy:bE (B_ w.heap.size w w2):=(((Kp _ w).alloc (Ki _) _).alloc zw _).trans (hb2.mono ZcF);have HS:bE (w2.heap[w.heap.size]? =o_ (c_ #[i_ j_ Me,.map (o_ b)] 69)):=(hb2.block _ ZcF).trans ((((Kp _ _).alloc (Ki _) _).block _ zw).trans (Kj _ _));obtain ⟨a,cap,hv,hrow⟩:=cr hown;have HR:bE (Row w2 a (m.map fun p=> i_ j_ p.1)):=hrow;rw [hv];clear hv hown hrow hb2 v;go_wp2_with fail
 go_loopw [3,11] (fun l i wr=> ∃ k:Nat,k<=m.length/\i=i_ j_ k/\ ∃ a' cap',l=s_ a' k cap'/\bE (wr.ownsRow w2.heap.size 64 1 (s_ a' k cap') k ((m.take k).map fun p=>dt p.2)/\B_ w2.heap.size w2 wr)) (fun _ i _=>m.length - (intOf i).toNat)
 case atStart=>exact ⟨0,Ky _,rfl,n_,0,rfl,⟨Ke _ _ _ _,Kp _ _⟩⟩
 case round=>
  obtain ⟨k,hk,rfl,a',cap',rfl,HO⟩:=hrel;by_cases hlt:k < m.length
  .have qE:(0:Int)<=(k:Int):=zo
   have i1:(k:Int) < (m.length:Int):=zo
   obtain ⟨p,hp⟩: ∃ p,m[k]? =o_ p:=⟨_,Kz hlt⟩
   have hpm:=KA hp;obtain ⟨g,ha,hc⟩:=(HR.I.below HO.I.2) k (i_ j_ p.1) Zdg;subst ha;have oE:=cy.I.size;have kT:=HO.I.2.size;have ut:cF wr b m:=HM.I.1.below (cy.I.trans (HO.I.2.mono oE));have hlk:=ut.look underlying67 (oD wr) (HM.I.2 p hpm) false;rw [jI ut.2 hpm] at hlk;have hsw:wr.heap[w.heap.size]? =o_ (c_ #[i_ j_ Me,.map (o_ b)] 69):=(HO.I.2.block _ (J2.1 HS.I).1).trans HS.I;have s1:wr.cell? ⟨w.heap.size,1,n_⟩=o_ (.map (o_ b)):=by simp [World.cell?,hsw]
   have HP:bE (m[k]? =o_ p):=hp;simp only [qz,dt,J5,if_false] at hlk;clear hp hpm ut hsw;go_wp2_with (at_builtin; refine KD _ rfl _ _ 130 rfl w2.heap.size 64 i0 (p_ n_) 1 8 underlying130 HI.I.1 HI.I.2.1 HI.I.2.2.1 HI.I.2.2.2 rfl (by decide) (s_ a' k cap') k ((m.take k).map fun p=>dt p.2) rfl (HO.I.1.alloc _) ⟨wr.heap.size,0,n_⟩ 1 1 [p_ (o_ ⟨p.2,0,n_⟩)] (by rfl) rfl (KE (cs:= #[p_ (o_ ⟨p.2,0,n_⟩)]) (t:=64) (fr:=(0,0)) (Kj wr _)) ZcP ZcI zo ZcF ?_; intro v' w5 hown' hgrow hnil jV; obtain ⟨a5,im,rfl,-⟩:=cr hown'; have HN:bE (w5.ownsRow w2.heap.size 64 1 (s_ a5 (k+1) im) (k+1) ((m.take (k+1)).map fun p=>dt p.2)/\B_ w2.heap.size w2 w5):=⟨by rw [cj HP.I,Kl]; exact hown',(HO.I.2.alloc kT _).grown hgrow ZcF (fun q hq=>(HO.I.1.lt q hq).1)⟩; clear hown' hgrow hnil jV);exact l_
  .exact mt
end
section
open Go.Maps
structure kX (w W:w_) (o:Nat) (q:ol) (lp:List (ao × Nat)) (ms me mb mf:df):Prop where
 opn:fa W o q
 eh:Shelf aX (fun x:ao=>x.id) 41 W 0 q.bp lp
 ms:cF W q.bs ms
 me:cF W q.be me
 mb:cF W q.bb mb
 mf:cF W q.bf mf
 cd:B_ w.heap.size w W
def kX.below {w W W':w_} {o:Nat} {q:ol} {lp:List (ao × Nat)} {ms me mb mf:df} (h:kX w W o q lp ms me mb mf) (hb:B_ W.heap.size W W'):kX w W' o q lp ms me mb mf:=
 ⟨h.opn.below hb,h.eh.below hb,h.ms.below hb,h.me.below hb,h.mb.below hb,h.mf.below hb,h.cd.trans (hb.mono h.cd.size)⟩
def kX.has {w W:w_} {o:Nat} {q:ol} {lp:List (ao × Nat)} {ms me mb mf:df} (h:kX w W o q lp ms me mb mf) {p:ao × Nat} (hp:p∈lp):fu W W o p.2 q p.1 ms me mb mf:=
 ⟨h.opn,h.eh.box p hp,h.ms,h.me,h.mb,h.mf,Kp _ _⟩
structure ao.Wf (x:ao):Prop where
 id:(Lit.int j_ x.id).wf=true
 on:(Lit.int j_ x.on).wf=true
 RU:(Lit.int j_ x.RU).wf=true
def DE {lp:List (ao × Nat)} (h: ∀ p∈lp,p.1.Wf): ∀ p∈RW (fun x:ao=>x.id) lp,(Lit.int j_ p.1).wf=true:=fun p hp=>by
 obtain ⟨r,hr,rfl⟩:=Lr.1 hp;exact (h r hr).id
def Bh (o:Nat) (q:ol) (lp:List (ao × Nat)) (ms me mb mf:df) (w:w_) (h:kX w w o q lp ms me mb mf) (hl:lp.length<=1048576) (hwf: ∀ p∈lp,p.1.Wf):
  k_ J3 57 #[p_ (o_ ⟨o,0,n_⟩)] w fun e w'=>e=r_ (b_ (lp.all fun p=>fw ms me mb mf p.1))/\B_ w.heap.size w w':=by
 have H:bE (kX w w o q lp ms me mb mf/\ ∀ p∈lp,p.1.Wf):=⟨h,hwf⟩
 have c2:w.cell? ⟨o,2,n_⟩=o_ (i_ j_ 6):=h.opn.cell 2;have c3:w.cell? ⟨o,3,n_⟩=o_ (.map (o_ q.bp)):=h.opn.cell 3;have hkl:(RW (fun x:ao=>x.id) lp).length=lp.length:=bZ lp;have HK:bE ((RW (fun x:ao=>x.id) lp).length=lp.length):=hkl;clear h hwf hkl
 go_enter func57,ntmps57
 go_wp2_with fail;refine (mq 6 q.bp (RW (fun x:ao=>x.id) lp) w H.I.1.eh.map ZcV (DE H.I.2)).mono ?_;rintro e w2 ⟨a,cap,rfl,hown,hb2⟩;obtain ⟨a',cap',hv,hrow⟩:=cr hown;cases hv;have HR:bE (Row w2 a ((RW (fun x:ao=>x.id) lp).map fun p=>dt p.2)):=hrow;have HO:bE (kX w w2 o q lp ms me mb mf):=H.I.1.below hb2;rw [HK.I];clear hown hrow hb2 c2 c3;go_wp2_with fail
 go_loopw [11] (fun i wr=> ∃ k:Nat,k<=lp.length/\i=i_ j_ k/\bE (((lp.take k).all fun p=>fw ms me mb mf p.1)=true/\B_ w2.heap.size w2 wr)) (fun i _=>lp.length - (intOf i).toNat)
 case atStart=>exact ⟨0,Ky _,rfl,⟨by simp,Kp _ _⟩⟩
 case round=>
  obtain ⟨k,hk,rfl,HA⟩:=hrel;have HO2:bE (kX w wr o q lp ms me mb mf):=HO.I.below HA.I.2;by_cases hlt:k < lp.length
  .have i0:(0:Int)<=(k:Int):=zo
   have i1:(k:Int) < (lp.length:Int):=zo
   obtain ⟨p,hp⟩: ∃ p,lp[k]? =o_ p:=⟨_,Kz hlt⟩
   have hpm:=KA hp;obtain ⟨g,ha,hc⟩:=(HR.I.below HA.I.2) k (dt p.2) ZcZ;subst ha;unfold dt at hc;have HP:bE (lp[k]? =o_ p/\p∈lp):=⟨hp,hpm⟩
   clear hp hpm;go_wp2_with fail;refine (Ak o p.2 q p.1 ms me mb mf wr (HO2.I.has HP.I.2) (H.I.2 p HP.I.2).on).mono ?_;rintro e w4 ⟨rfl,hb4⟩;have HB4:bE (B_ w2.heap.size w2 w4):=HA.I.2.trans (hb4.mono HA.I.2.size);have HF4:bE (B_ w.heap.size w w4):=HO2.I.cd.trans (hb4.mono HO2.I.cd.size);clear hb4;cases FN:fw ms me mb mf p.1 with
   | true=>
    have HY:bE (((lp.take (k+1)).all fun p=>fw ms me mb mf p.1)=true):=by
     show _=true
     rw [cj HP.I.1,List.all_append,HA.I.1];simp [FN]
    clear FN;go_wp2;go_roundw
    case rel=>exact ⟨k+1,zo,by go_num,⟨HY.I,HB4.I⟩⟩
    case measure=>simp [intOf]; omega
   | false=>
    have HN:bE ((lp.all fun p=>fw ms me mb mf p.1)=false):=by
     show _=false
     rw [List.all_eq_false];exact ⟨p,HP.I.2,by simp [FN]⟩
    clear FN;go_wp2;go_ret;exact ⟨al HN.I.symm,HF4.I⟩
  .have i1: ¬ (k:Int) < (lp.length:Int):=zo
   have HT:bE ((lp.all fun p=>fw ms me mb mf p.1)=true):=by have:=HA.I.1; rwa [KF zo] at this
   go_wp2;go_ret;exact ⟨al HT.I.symm,HO2.I.cd⟩
end
section
open Go.Maps
attribute [local go_sem ↓] Kc Kd
def DV (w:World):(zeroValue 3).run J3 w= .ok (.int .i64 0) w:=by kernel_rfl
def hO (w:World) (b:Nat) (L:List Int):Prop:= ∃ D:DataW Unit,w.ownsMap J3 2 (plainElem J3 3) b L.length D/\IsMap D/\ ∀ z:Int,D.atKey (.int .i64 z) (.lit (.int .i64 0))= .lit (.int .i64 (if z∈L then 1 else 0))
def hO.none {w:World} {b:Nat} (hb:w.heap[b]? =some (.map #[] 0)):hO w b [] :=
 ⟨.map [],⟨#[],0,hb,⟨by simp,MapKept.stamped_empty 0,by simp⟩,by simp,rfl⟩,isMap_empty,fun z=>by simp [DataW.atKey]⟩
def hO.lt {w:World} {b:Nat} {L:List Int} (h:hO w b L):b < w.heap.size:=by obtain ⟨D,h,_⟩:=h; exact h.lt
def hO.same {w w':World} {b:Nat} {L:List Int} (h:hO w b L) (hs:w'.heap[b]? =w.heap[b]?):hO w' b L:=by
 obtain ⟨D,⟨es,clock,hb,r⟩,h2⟩:=h;exact ⟨D,⟨es,clock,hs.trans hb,r⟩,h2⟩
def hO.look {w:World} {b:Nat} {L:List Int} (h:hO w b L) {z:Int} (hz:(Lit.int .i64 z).wf=true):(Instr.lookup 166 (.map (some b)) (.int .i64 z) false).run J3 w= .ok (.int .i64 (if z∈L then 1 else 0)) w:=by
 obtain ⟨D,hown,_,hat⟩:=h;obtain ⟨c,hrun,hc,_⟩:=hown.lookup_int jb Tryz.underlying166 QY (DV w) (vX hz);rw [hat z] at hc;simp only [QZ,Q0,true_and] at hc;rw [hrun,hc]
def hO.put {w:World} {b:Nat} {L:List Int} (h:hO w b L) (hl:L.length<=1048576) {z:Int} (hz:(Lit.int .i64 z).wf=true) (v:Int) (hv:v=(if z∈L then 1 else 0)+1):
  ∃ w',(Instr.mapUpdate 166 (.map (some b)) (.int .i64 z) (.int .i64 v)).run J3 w= .ok () w'/\w.grownBy w' (some b)/\w'.heap.size=w.heap.size/\
   (∀ W:World,W.heap=w'.heap->(Instr.lookup 166 (.map (some b)) (.int .i64 z) false).run J3 W= .ok (.int .i64 v) W)/\(z∉L->hO w' b (L ++ [z])):=by
 obtain ⟨D,hown,hm,hat⟩:=h;have hvw:(Lit.int .i64 v).wf=true:=by
  subst hv
  split <;> decide
 obtain ⟨w',hrun,ho,ht⟩:=hown.store jb Tryz.underlying166 (Q5 hl (by decide)) (vX hz) (plainElem_int (H:=Unit) QY hvw);refine ⟨w',hrun,ht.grown,?_,fun W hW=> ?_,fun hn=>⟨_,by rw [Lf]; exact ho,hm.put _ _,fun y=> ?_⟩⟩
 .obtain ⟨es,clock,es',clock',hb,rfl⟩:=ht
  simp [ChangeMaps.setBlock]
 .have Hw:W.ownsMap J3 2 (plainElem J3 3) b (L.length+1) (D.put (.int .i64 z) (.lit (.int .i64 v))):=by
   obtain ⟨es,clock,hb,r⟩:=ho;exact ⟨es,clock,by rw [hW]; exact hb,r⟩
  obtain ⟨c,hr,hc,_⟩:=Hw.lookup_int jb Tryz.underlying166 QY (DV W) (vX hz);rw [atKey_put_same hm (jb.key (vX hz))] at hc;simp only [QZ,Q0,true_and] at hc;rw [hr,hc]
 .by_cases hy:y=z
  .subst hy
   rw [atKey_put_same hm (jb.key (vX hz))];simp [hv,hn]
  .rw [atKey_put_other (fun e=>hy (by simpa using e)),hat y]
   simp [hy]
def Cf (l:List (ao × Nat)):List Int:=Hu (l.map fun p=>p.1.toaD)
def km (next:Int) (l:List (ao × Nat)):Prop:=nQ next (l.map fun p=>p.1.toaD)
def we (l:List (ao × Nat)) (p:ao × Nat):Cf (l ++ [p])=Cf l ++ (if p.1.Md=0 then [] else [p.1.RU]):=by
 simp only [Cf,Hu,Kl,QN,Lt,QV,LN,List.filter_nil];by_cases h:p.1.Md=0 <;> simp [h]
def vx {next:Int} {l:List (ao × Nat)} {p:ao × Nat} (h:km next l) (hp: ¬ p.1.Md=0->1<=p.1.RU/\p.1.RU < next/\p.1.RU∉Cf l):km next (l ++ [p]):=by
 refine ⟨fun x hx=> ?_,?_⟩
 .rw [Kl] at hx
  rcases Kg.1 hx with hx | hx
  .exact h.1 x hx
  .simp only [Lt,QV,KB] at hx
   subst hx;exact fun h0=>⟨(hp h0).1,(hp h0).2.1⟩
 .have e:=we l p
  unfold Cf at e;rw [e];by_cases h0:p.1.Md=0
  .simp only [h0,if_true,QO]; exact h.2
  .simp only [h0,if_false]
   refine Kf.2 ⟨h.2,by simp,fun a ha b hb=> ?_⟩;simp only [KB] at hb;subst hb;intro e2;subst e2;exact (hp h0).2.2 ha
def rU {next:Int} {l:List (ao × Nat)} {k:Nat} {p:ao × Nat} (hp:l[k]? =some p) (h0: ¬ p.1.Md=0) (hb: ¬ (1<=p.1.RU/\p.1.RU < next/\p.1.RU∉Cf (l.take k))): ¬ km next l:=fun h=>by
 have hm:p.1.toaD∈l.map fun p=>p.1.toaD:=Lr.2 ⟨p,KA hp,rfl⟩
 have h1:=h.1 _ hm h0;refine hb ⟨h1.1,h1.2,fun hmem=> ?_⟩;have e:l=l.take k ++ p :: l.drop (k+1):=kL hp;have h2:=h.2;rw [e] at h2;simp only [Hu,Kl,Lt,QN,LN] at h2;have h0':(!decide (p.1.toaD.Md=0))=true:=by simp [h0]
 rw [if_pos h0',Lt] at h2;exact (Kf.1 h2).2.2 p.1.RU hmem p.1.RU zw rfl
def A6 (w:World) (q:ol) (lp:List (ao × Nat)) (e:Ending) (w':World):Prop:= ∃ ok:Bool,e= .returned (.bool ok)/\(ok=true↔km q.next lp)/\Below w.heap.size w w'
def kO {w w':World} {q:ol} {lp:List (ao × Nat)} (h: ¬ km q.next lp) (hb:Below w.heap.size w w'):A6 w q lp (.returned (.bool false)) w':=⟨false,rfl,⟨(fun h=>by cases h),fun h'=>absurd h' h⟩,hb⟩
structure rO (w w2 wr:World) (o:Nat) (q:ol) (lp:List (ao × Nat)) (L:List Int):Prop where
 taken:hO wr w.heap.size L
 grown:w2.grownBy wr (some w.heap.size)
def rO.block {w w2 wr:World} {o:Nat} {q:ol} {lp:List (ao × Nat)} {L:List Int} (h:rO w w2 wr o q lp L) {g:Nat} (hg:g < w2.heap.size) (hne: ¬ g=w.heap.size):wr.heap[g]? =w2.heap[g]? :=h.grown.block g hg (fun e=>hne (KC e))
def BI (o:Nat) (q:ol) (lp:List (ao × Nat)) (ms me mb mf:df) (w:World) (h:kX w w o q lp ms me mb mf) (hl:lp.length<=1048576) (hwf: ∀ p∈lp,p.1.Wf):
  Calls J3 56 #[.pointer (some ⟨o,0,none⟩)] w fun e w'=>A6 w q lp e w':=by
 have hmk:=run_makeMap (P:=J3) 166;have H:bE (kX w w o q lp ms me mb mf/\ ∀ p∈lp,p.1.Wf):=⟨h,hwf⟩
 have p7:o < w.heap.size:=(J2.1 h.opn).1;have c2:w.cell? ⟨o,2,none⟩=some (.int .i64 6):=h.opn.cell 2;have c3:w.cell? ⟨o,3,none⟩=some (.map (some q.bp)):=h.opn.cell 3;have HK:bE ((RW (fun x:ao=>x.id) lp).length=lp.length):=bZ lp;clear h hwf
 go_enter Tryz.func56,Tryz.ntmps56
 go_wp2_with fail;refine (mq 6 q.bp (RW (fun x:ao=>x.id) lp) (w.alloc (.map #[] 0)) (H.I.1.eh.map.below ((Kp _ w).alloc (Ki _) _)) ZcV (DE H.I.2)).mono ?_;rintro e w2 ⟨a,cap,rfl,hown,hb2⟩;obtain ⟨a',cap',hv,hrow⟩:=cr hown;cases hv;have HR:bE (Row w2 a ((RW (fun x:ao=>x.id) lp).map fun p=>dt p.2)):=hrow;have HRB:bE (∀ g,a=some ⟨g,0,none⟩->w.heap.size+1<=g/\g < w2.heap.size):=fun g hg=>by
  subst hg
  have:=hown.lt g rfl
  simpa using this
 have cy:bE (Below w.heap.size w w2):=((Kp _ w).alloc (Ki _) _).trans (hb2.mono zw);have Hz:bE (hO w2 w.heap.size []):=hO.none ((hb2.block _ zw).trans (Kj _ _));rw [HK.I];clear hown hrow hb2 c2 c3 hmk;go_wp2_with fail
 go_loopw [13] (fun i wr=> ∃ k:Nat,k<=lp.length/\i= .int .i64 k/\bE (km q.next (lp.take k)/\rO w w2 wr o q lp (Cf (lp.take k)))) (fun i _=>lp.length - (intOf i).toNat)
 case atStart=>exact ⟨0,Ky _,rfl,⟨⟨(fun x hx=>by simp at hx),by simp [Hu]⟩,⟨by simpa [Cf,Hu] using Hz.I,⟨rfl,rfl,rfl,Ki _,fun _ _ _=>rfl⟩⟩⟩⟩
 case round=>
  obtain ⟨k,hk,rfl,HA⟩:=hrel;have Ez:bE (Below w.heap.size w wr):=cy.I.grown HA.I.2.grown cy.I.size (fun k hk=>by cases hk; exact Ki _);by_cases hlt:k < lp.length
  .have i0:(0:Int)<=(k:Int):=zo
   have i1:(k:Int) < (lp.length:Int):=zo
   obtain ⟨p,hp⟩: ∃ p,lp[k]? =some p:=⟨_,Kz hlt⟩
   have hpm:=KA hp;have hrw:=HR.I k (dt p.2) ZcZ;obtain ⟨g,ha,hc0⟩:=hrw;have hgb:=HRB.I g ha;have hc:wr.cell? ⟨g,k,none⟩=some (.pointer (some ⟨p.2,0,none⟩)):=(J1 (w:=w2) (a:=⟨g,k,none⟩) (HA.I.2.block (g:=g) hgb.2 (fun e=>by have h1:=hgb.1; have e':g=w.heap.size:=e; omega))).trans hc0;subst ha;have lD:wr.heap[p.2]? =some (.cells (aX p.1) 41 (0,0)):=(Ez.I.block _ (J2.1 (H.I.1.eh.box p hpm)).1).trans (H.I.1.eh.box p hpm);have hob:fa wr o q:=(Ez.I.block _ p7).trans H.I.1.opn;have HP:bE (lp[k]? =some p/\p∈lp):=⟨hp,hpm⟩
   have HW:bE ((Lit.int .i64 p.1.RU).wf=true):=(H.I.2 p hpm).RU;have HX:bE (wr.heap[p.2]? =some (.cells (aX p.1) 41 (0,0))/\fa wr o q):=⟨lD,hob⟩
   have k3:=(bo lD).2.2.2.1;have k11:=(bo lD).2.2.2.2.2.2.2.2.2.2.2;have hls:(Cf (lp.take k)).length<=1048576:=by
    have h1:(Cf (lp.take k)).length<=(lp.take k).length:=by
     simp only [Cf,Hu,KG];exact LG (Qq _ _) zw
    rw [Lk] at h1;omega
   clear hp hpm hc0 hgb lD hob;by_cases h0:p.1.Md=0
   .have HY:bE (km q.next (lp.take (k+1))/\rO w w2 wr o q lp (Cf (lp.take (k+1)))):=by
     rw [cj HP.I.1];refine ⟨vx HA.I.1 (fun h=>absurd h0 h),?_⟩;rw [we,if_pos h0,QO];exact HA.I.2
    have e0:(p.1.Md == 0)=true:=by simp [h0]
    clear h0;go_wp2;go_roundw
    case rel=>exact ⟨k+1,zo,by go_num,HY⟩
    case measure=>simp [intOf]; omega
   .have e0:(p.1.Md == 0)=false:=by simp [h0]
    have H0:bE (¬ p.1.Md=0):=h0;clear h0;have hlk:=HA.I.2.taken.look HW.I;by_cases hz:p.1.RU∈Cf (lp.take k)
    .rw [if_pos hz] at hlk
     obtain ⟨w5,hput,wY,aaX,FJ,-⟩:=HA.I.2.taken.put hls HW.I 2 (by rw [if_pos hz]; rfl);have HN:bE (¬ km q.next lp):=rU HP.I.1 H0.I (fun hh=>hh.2.2 hz);have Dk:bE (Below w.heap.size w w5):=Ez.I.grown wY Ez.I.size (fun k hk=>by cases hk; exact Ki _);have hx5:w5.heap[p.2]? =some (.cells (aX p.1) 41 (0,0)):=(Dk.I.block _ (J2.1 (H.I.1.eh.box p HP.I.2)).1).trans (H.I.1.eh.box p HP.I.2);have oe:fa w5 o q:=(Dk.I.block _ p7).trans H.I.1.opn;have f11:=(bo hx5).2.2.2.2.2.2.2.2.2.2.2;have f1:w5.cell? ⟨o,1,none⟩=some (.int .i64 q.next):=oe.cell 1;have rL:=FJ w5.drew rfl;clear FJ wY aaX hx5 oe hz;by_cases hA:p.1.RU < 1
     .have dA:decide (p.1.RU < 1)=true:=decide_eq_true hA
      exact Zcs
     have dA:decide (p.1.RU < 1)=false:=decide_eq_false hA;by_cases hB:q.next<=p.1.RU
     .have dB:decide (q.next<=p.1.RU)=true:=decide_eq_true hB
      exact Zcz
     have dB:decide (q.next<=p.1.RU)=false:=decide_eq_false hB;clear hA hB;go_wp2_with fail;refine aT (fun w'=>w'=w5.drew) ZcE rfl ?_
     iterate 25 (refine agj ?_)
     refine bk ZcE ?_ _;intro w1 cm;subst cm;go_wp2;go_ret;exact kO HN.I Dk.I.drew
    .rw [if_neg hz] at hlk
     obtain ⟨w5,hput,wY,aaX,FJ,htk⟩:=HA.I.2.taken.put hls HW.I 1 (by rw [if_neg hz]; rfl);have Dk:bE (Below w.heap.size w w5):=Ez.I.grown wY Ez.I.size (fun k hk=>by cases hk; exact Ki _);have EY:bE (rO w w2 w5 o q lp (Cf (lp.take k) ++ [p.1.RU])):=⟨htk hz,⟨wY.os.trans HA.I.2.grown.os,wY.tape.trans HA.I.2.grown.tape,wY.output.trans HA.I.2.grown.output,LG HA.I.2.grown.size wY.size,fun k hk hne=>(wY.block k (Kn hk HA.I.2.grown.size) hne).trans (HA.I.2.grown.block k hk hne)⟩⟩
     have HZ:bE (¬ p.1.RU∈Cf (lp.take k)):=hz;have hx5:w5.heap[p.2]? =some (.cells (aX p.1) 41 (0,0)):=(Dk.I.block _ (J2.1 (H.I.1.eh.box p HP.I.2)).1).trans (H.I.1.eh.box p HP.I.2);have oe:fa w5 o q:=(Dk.I.block _ p7).trans H.I.1.opn;have f11:=(bo hx5).2.2.2.2.2.2.2.2.2.2.2;have f1:w5.cell? ⟨o,1,none⟩=some (.int .i64 q.next):=oe.cell 1;have rL:=FJ w5.drew rfl;clear FJ wY aaX hx5 oe hz htk;by_cases hA:p.1.RU < 1
     .have dA:decide (p.1.RU < 1)=true:=decide_eq_true hA
      have HN:bE (¬ km q.next lp):=rU HP.I.1 H0.I (fun hh=>by have:=hh.1; omega);exact Zcs
     have dA:decide (p.1.RU < 1)=false:=decide_eq_false hA;by_cases hB:q.next<=p.1.RU
     .have dB:decide (q.next<=p.1.RU)=true:=decide_eq_true hB
      have HN:bE (¬ km q.next lp):=rU HP.I.1 H0.I (fun hh=>by have:=hh.2.1; omega);exact Zcz
     have dB:decide (q.next<=p.1.RU)=false:=decide_eq_false hB;have HY:bE (km q.next (lp.take (k+1))/\rO w w2 w5 o q lp (Cf (lp.take (k+1)))):=by
      rw [cj HP.I.1];refine ⟨vx HA.I.1 (fun _=>⟨zo,zo,HZ.I⟩),?_⟩;rw [we,if_neg H0.I];exact EY.I
     clear hA hB;go_wp2_with fail;refine aT (fun w'=>w'=w5.drew) ZcE rfl ?_
     iterate 25 (refine agj ?_)
     refine bk ZcE ?_ _;intro w1 cm;subst cm;go_wp2;go_roundw
     case rel=>exact ⟨k+1,zo,by go_num,⟨HY.I.1,⟨HY.I.2.taken.same rfl,⟨HY.I.2.grown.os,HY.I.2.grown.tape,HY.I.2.grown.output,HY.I.2.grown.size,HY.I.2.grown.block⟩⟩⟩⟩
     case measure=>simp [intOf]; omega
  .have i1: ¬ (k:Int) < (lp.length:Int):=zo
   have HT:bE (km q.next lp):=by have:=HA.I.1; rwa [KF zo] at this
   go_wp2;go_ret;exact ⟨true,rfl,⟨fun _=>HT.I,fun _=>rfl⟩,Ez.I⟩
end
section
open Go.RowKit Go.Maps Go.Sort Go.Shelf
def wq (mb:Option Nat) (W:w_):k_ J3 143 #[.map mb] W fun e w'=>e=r_ (.func (.func 182) #[] #[p_ (o_ ⟨W.heap.size,0,n_⟩)])/\w'=W.alloc (c_ #[.map mb] 82):=
 (LO (n:=5)).1 (RC Tryz.keysPort Fence.wide 5 trivial rfl mb W)
def pY (Bm b:Nat) (m:df) (W:w_) (hBm:Bm < W.heap.size) (hc:W.cell? ⟨Bm,0,n_⟩=o_ (.map (o_ b))) (h:cF W b m) (hm:m.length<=1048576):
  k_ J3 135 #[.func (.func 182) #[] #[p_ (o_ ⟨Bm,0,n_⟩)]] W fun e w'=> ∃ v:v_,e=r_ v/\w'.ownsRow W.heap.size 2 1 v m.length (m.map fun p=> i_ j_ p.1)/\B_ W.heap.size W w':=by
 have hsz:Maps.size (gA m)=m.length:=size_map m;have hseq:SeqGives Fence.wide 2 J3 182 #[p_ (o_ ⟨Bm,0,n_⟩)] encZ (fun ss=>ss.Perm (intKeys (gA m))) (Maps.size (gA m)) W:=
  RD (ρ:=Tryz.keysPort_ren) { Tryz.keysPort with } Fence.wide _ trivial rfl zo Bm b m.length (gA m) W hBm hc h.1
 have cS:=RE Tryz.sortedA Fence.wide 5 trivial trivial trivial trivial rfl zo (Tryz.sortsA _) (LP func176 ZcE rfl) 182 #[p_ (o_ ⟨Bm,0,n_⟩)] trivial (LP func182 ZcE rfl) _ _ ZcY Zdh _ hseq
 exact ir
def BK:(Tryz.prog.info? 169).map (fun i=>(i.zero,i.size,i.bytes))=o_ (o_ (p_ n_),1,8):=by kernel_rfl
def Bx (Me:Int) (b:Nat) (m:df) (w:w_) (h:cF w b m) (hm:m.length<=1048576) (hwf: ∀ p∈m,(Lit.int j_ p.1).wf=true):
  k_ J3 109 #[a_ #[i_ j_ Me,.map (o_ b)]] w fun e w'=> ∃ a cap,e=r_ (s_ a m.length cap)/\w'.ownsRow w.heap.size 169 1 (s_ a m.length cap) m.length (m.map fun p=>dt p.2)/\B_ w.heap.size w w':=by
 obtain ⟨i0,hi,e0⟩:=Kw.1 BK;simp only [Kx] at e0;have HI:bE (Tryz.prog.info? 169=o_ i0/\i0.zero=o_ (p_ n_)/\i0.size=1/\i0.bytes=8):=⟨hi,e0⟩
 have HM:bE (cF w b m/\ ∀ p∈m,(Lit.int j_ p.1).wf=true):=⟨h,hwf⟩
 have hbl:b < w.heap.size:=h.lt;clear hi e0 h hwf
 go_enter func109,ntmps109
 go_wp2_with (go_at_call 143; refine (wq _ _).mono ?_; rintro e w' ⟨rfl,rfl⟩);refine (pY (w.heap.size+1) b m _ zw zw (HM.I.1.below (((Kp _ w).alloc (Ki _) _).alloc zw _)) hm).mono ?_;rintro e w2 ⟨v,rfl,hown,hb2⟩;have cy:bE (B_ w.heap.size w w2):=(((Kp _ w).alloc (Ki _) _).alloc zw _).trans (hb2.mono ZcF);have HS:bE (w2.heap[w.heap.size]? =o_ (c_ #[i_ j_ Me,.map (o_ b)] 84)):=(hb2.block _ ZcF).trans ((PU zw).trans (Kj _ _));obtain ⟨a,cap,hv,hrow⟩:=cr hown;have HR:bE (Row w2 a (m.map fun p=> i_ j_ p.1)):=hrow;rw [hv];clear hv hown hrow hb2 v;go_wp2_with fail
 go_loopw [3,11] (fun l i wr=> ∃ k:Nat,k<=m.length/\i=i_ j_ k/\ ∃ a' cap',l=s_ a' k cap'/\bE (wr.ownsRow w2.heap.size 169 1 (s_ a' k cap') k ((m.take k).map fun p=>dt p.2)/\B_ w2.heap.size w2 wr)) (fun _ i _=>m.length - (intOf i).toNat)
 case atStart=>exact ⟨0,Ky _,rfl,n_,0,rfl,⟨Ke _ _ _ _,Kp _ _⟩⟩
 case round=>
  obtain ⟨k,hk,rfl,a',cap',rfl,HO⟩:=hrel;by_cases hlt:k < m.length
  .have qE:(0:Int)<=(k:Int):=zo
   have i1:(k:Int) < (m.length:Int):=zo
   obtain ⟨p,hp⟩: ∃ p,m[k]? =o_ p:=⟨_,Kz hlt⟩
   have hpm:=KA hp;obtain ⟨g,ha,hc⟩:=(HR.I.below HO.I.2) k (i_ j_ p.1) Zdg;subst ha;have oE:=cy.I.size;have kT:=HO.I.2.size;have ut:cF wr b m:=HM.I.1.below (cy.I.trans (HO.I.2.mono oE));have hlk:=ut.look underlying82 (sK wr) (HM.I.2 p hpm) false;rw [jI ut.2 hpm] at hlk;have hsw:wr.heap[w.heap.size]? =o_ (c_ #[i_ j_ Me,.map (o_ b)] 84):=(HO.I.2.block _ (J2.1 HS.I).1).trans HS.I;have s1:wr.cell? ⟨w.heap.size,1,n_⟩=o_ (.map (o_ b)):=by simp [World.cell?,hsw]
   have HP:bE (m[k]? =o_ p):=hp;simp only [qz,dt,J5,if_false] at hlk;clear hp hpm ut hsw;go_wp2_with (at_builtin; refine KD _ rfl _ _ 183 rfl w2.heap.size 169 i0 (p_ n_) 1 8 underlying183 HI.I.1 HI.I.2.1 HI.I.2.2.1 HI.I.2.2.2 rfl (by decide) (s_ a' k cap') k ((m.take k).map fun p=>dt p.2) rfl (HO.I.1.alloc _) ⟨wr.heap.size,0,n_⟩ 1 1 [p_ (o_ ⟨p.2,0,n_⟩)] (by rfl) rfl (KE (cs:= #[p_ (o_ ⟨p.2,0,n_⟩)]) (t:=169) (fr:=(0,0)) (Kj wr _)) ZcP ZcI zo ZcF ?_; intro v' w5 hown' hgrow hnil jV; obtain ⟨a5,im,rfl,-⟩:=cr hown'; have HN:bE (w5.ownsRow w2.heap.size 169 1 (s_ a5 (k+1) im) (k+1) ((m.take (k+1)).map fun p=>dt p.2)/\B_ w2.heap.size w2 w5):=⟨by rw [cj HP.I,Kl]; exact hown',(HO.I.2.alloc kT _).grown hgrow ZcF (fun q hq=>(HO.I.1.lt q hq).1)⟩; clear hown' hgrow hnil jV);exact l_
  .exact mt
def tr (mb:Option Nat) (W:w_):k_ J3 142 #[.map mb] W fun e w'=>e=r_ (.func (.func 181) #[] #[p_ (o_ ⟨W.heap.size,0,n_⟩)])/\w'=W.alloc (c_ #[.map mb] 79):=
 (LO (n:=5)).1 (RC Tryz.keysBuffer Fence.wide 5 trivial rfl mb W)
def oF (Bm b:Nat) (m:df) (W:w_) (hBm:Bm < W.heap.size) (hc:W.cell? ⟨Bm,0,n_⟩=o_ (.map (o_ b))) (h:cF W b m) (hm:m.length<=1048576):
  k_ J3 135 #[.func (.func 181) #[] #[p_ (o_ ⟨Bm,0,n_⟩)]] W fun e w'=> ∃ v:v_,e=r_ v/\w'.ownsRow W.heap.size 2 1 v m.length (m.map fun p=> i_ j_ p.1)/\B_ W.heap.size W w':=by
 have hsz:Maps.size (gA m)=m.length:=size_map m;have hseq:SeqGives Fence.wide 2 J3 181 #[p_ (o_ ⟨Bm,0,n_⟩)] encZ (fun ss=>ss.Perm (intKeys (gA m))) (Maps.size (gA m)) W:=
  RD (ρ:=Tryz.keysBuffer_ren) { Tryz.keysBuffer with } Fence.wide _ trivial rfl zo Bm b m.length (gA m) W hBm hc h.1
 have cS:=RE Tryz.sortedA Fence.wide 5 trivial trivial trivial trivial rfl zo (Tryz.sortsA _) (LP func176 ZcE rfl) 181 #[p_ (o_ ⟨Bm,0,n_⟩)] trivial (LP func181 ZcE rfl) _ _ ZcY Zdh _ hseq
 exact ir
def wt:(Tryz.prog.info? 168).map (fun i=>(i.zero,i.size,i.bytes))=o_ (o_ (p_ n_),1,8):=by kernel_rfl
def wF (Me:Int) (b:Nat) (m:df) (w:w_) (h:cF w b m) (hm:m.length<=1048576) (hwf: ∀ p∈m,(Lit.int j_ p.1).wf=true):
  k_ J3 108 #[a_ #[i_ j_ Me,.map (o_ b)]] w fun e w'=> ∃ a cap,e=r_ (s_ a m.length cap)/\w'.ownsRow w.heap.size 168 1 (s_ a m.length cap) m.length (m.map fun p=>dt p.2)/\B_ w.heap.size w w':=by
 obtain ⟨i0,hi,e0⟩:=Kw.1 wt;simp only [Kx] at e0;have HI:bE (Tryz.prog.info? 168=o_ i0/\i0.zero=o_ (p_ n_)/\i0.size=1/\i0.bytes=8):=⟨hi,e0⟩
 have HM:bE (cF w b m/\ ∀ p∈m,(Lit.int j_ p.1).wf=true):=⟨h,hwf⟩
 have hbl:b < w.heap.size:=h.lt;clear hi e0 h hwf
 go_enter func108,ntmps108
 go_wp2_with (go_at_call 142; refine (tr _ _).mono ?_; rintro e w' ⟨rfl,rfl⟩);refine (oF (w.heap.size+1) b m _ zw zw (HM.I.1.below (((Kp _ w).alloc (Ki _) _).alloc zw _)) hm).mono ?_;rintro e w2 ⟨v,rfl,hown,hb2⟩;have cy:bE (B_ w.heap.size w w2):=(((Kp _ w).alloc (Ki _) _).alloc zw _).trans (hb2.mono ZcF);have HS:bE (w2.heap[w.heap.size]? =o_ (c_ #[i_ j_ Me,.map (o_ b)] 81)):=(hb2.block _ ZcF).trans ((PU zw).trans (Kj _ _));obtain ⟨a,cap,hv,hrow⟩:=cr hown;have HR:bE (Row w2 a (m.map fun p=> i_ j_ p.1)):=hrow;rw [hv];clear hv hown hrow hb2 v;go_wp2_with fail
 go_loopw [3,11] (fun l i wr=> ∃ k:Nat,k<=m.length/\i=i_ j_ k/\ ∃ a' cap',l=s_ a' k cap'/\bE (wr.ownsRow w2.heap.size 168 1 (s_ a' k cap') k ((m.take k).map fun p=>dt p.2)/\B_ w2.heap.size w2 wr)) (fun _ i _=>m.length - (intOf i).toNat)
 case atStart=>exact ⟨0,Ky _,rfl,n_,0,rfl,⟨Ke _ _ _ _,Kp _ _⟩⟩
 case round=>
  obtain ⟨k,hk,rfl,a',cap',rfl,HO⟩:=hrel;by_cases hlt:k < m.length
  .have qE:(0:Int)<=(k:Int):=zo
   have i1:(k:Int) < (m.length:Int):=zo
   obtain ⟨p,hp⟩: ∃ p,m[k]? =o_ p:=⟨_,Kz hlt⟩
   have hpm:=KA hp;obtain ⟨g,ha,hc⟩:=(HR.I.below HO.I.2) k (i_ j_ p.1) Zdg;subst ha;have oE:=cy.I.size;have kT:=HO.I.2.size;have ut:cF wr b m:=HM.I.1.below (cy.I.trans (HO.I.2.mono oE));have hlk:=ut.look underlying79 (pS wr) (HM.I.2 p hpm) false;rw [jI ut.2 hpm] at hlk;have hsw:wr.heap[w.heap.size]? =o_ (c_ #[i_ j_ Me,.map (o_ b)] 81):=(HO.I.2.block _ (J2.1 HS.I).1).trans HS.I;have s1:wr.cell? ⟨w.heap.size,1,n_⟩=o_ (.map (o_ b)):=by simp [World.cell?,hsw]
   have HP:bE (m[k]? =o_ p):=hp;simp only [qz,dt,J5,if_false] at hlk;clear hp hpm ut hsw;go_wp2_with (at_builtin; refine KD _ rfl _ _ 181 rfl w2.heap.size 168 i0 (p_ n_) 1 8 underlying181 HI.I.1 HI.I.2.1 HI.I.2.2.1 HI.I.2.2.2 rfl (by decide) (s_ a' k cap') k ((m.take k).map fun p=>dt p.2) rfl (HO.I.1.alloc _) ⟨wr.heap.size,0,n_⟩ 1 1 [p_ (o_ ⟨p.2,0,n_⟩)] (by rfl) rfl (KE (cs:= #[p_ (o_ ⟨p.2,0,n_⟩)]) (t:=168) (fr:=(0,0)) (Kj wr _)) ZcP ZcI zo ZcF ?_; intro v' w5 hown' hgrow hnil jV; obtain ⟨a5,im,rfl,-⟩:=cr hown'; have HN:bE (w5.ownsRow w2.heap.size 168 1 (s_ a5 (k+1) im) (k+1) ((m.take (k+1)).map fun p=>dt p.2)/\B_ w2.heap.size w2 w5):=⟨by rw [cj HP.I,Kl]; exact hown',(HO.I.2.alloc kT _).grown hgrow ZcF (fun q hq=>(HO.I.1.lt q hq).1)⟩; clear hown' hgrow hnil jV);exact l_
  .exact mt
def vL (mb:Option Nat) (W:w_):k_ J3 141 #[.map mb] W fun e w'=>e=r_ (.func (.func 180) #[] #[p_ (o_ ⟨W.heap.size,0,n_⟩)])/\w'=W.alloc (c_ #[.map mb] 76):=
 (LO (n:=5)).1 (RC Tryz.keysBoard Fence.wide 5 trivial rfl mb W)
def pB (Bm b:Nat) (m:df) (W:w_) (hBm:Bm < W.heap.size) (hc:W.cell? ⟨Bm,0,n_⟩=o_ (.map (o_ b))) (h:cF W b m) (hm:m.length<=1048576):
  k_ J3 135 #[.func (.func 180) #[] #[p_ (o_ ⟨Bm,0,n_⟩)]] W fun e w'=> ∃ v:v_,e=r_ v/\w'.ownsRow W.heap.size 2 1 v m.length (m.map fun p=> i_ j_ p.1)/\B_ W.heap.size W w':=by
 have hsz:Maps.size (gA m)=m.length:=size_map m;have hseq:SeqGives Fence.wide 2 J3 180 #[p_ (o_ ⟨Bm,0,n_⟩)] encZ (fun ss=>ss.Perm (intKeys (gA m))) (Maps.size (gA m)) W:=
  RD (ρ:=Tryz.keysBoard_ren) { Tryz.keysBoard with } Fence.wide _ trivial rfl zo Bm b m.length (gA m) W hBm hc h.1
 have cS:=RE Tryz.sortedA Fence.wide 5 trivial trivial trivial trivial rfl zo (Tryz.sortsA _) (LP func176 ZcE rfl) 180 #[p_ (o_ ⟨Bm,0,n_⟩)] trivial (LP func180 ZcE rfl) _ _ ZcY Zdh _ hseq
 exact ir
def zM:(Tryz.prog.info? 180).map (fun i=>(i.zero,i.size,i.bytes))=o_ (o_ (p_ n_),1,8):=by kernel_rfl
def yB (Me:Int) (b:Nat) (m:df) (w:w_) (h:cF w b m) (hm:m.length<=1048576) (hwf: ∀ p∈m,(Lit.int j_ p.1).wf=true):
  k_ J3 107 #[a_ #[i_ j_ Me,.map (o_ b)]] w fun e w'=> ∃ a cap,e=r_ (s_ a m.length cap)/\w'.ownsRow w.heap.size 180 1 (s_ a m.length cap) m.length (m.map fun p=>dt p.2)/\B_ w.heap.size w w':=by
 obtain ⟨i0,hi,e0⟩:=Kw.1 zM;simp only [Kx] at e0;have HI:bE (Tryz.prog.info? 180=o_ i0/\i0.zero=o_ (p_ n_)/\i0.size=1/\i0.bytes=8):=⟨hi,e0⟩
 have HM:bE (cF w b m/\ ∀ p∈m,(Lit.int j_ p.1).wf=true):=⟨h,hwf⟩
 have hbl:b < w.heap.size:=h.lt;clear hi e0 h hwf
 go_enter func107,ntmps107
 go_wp2_with (go_at_call 141; refine (vL _ _).mono ?_; rintro e w' ⟨rfl,rfl⟩);refine (pB (w.heap.size+1) b m _ zw zw (HM.I.1.below (((Kp _ w).alloc (Ki _) _).alloc zw _)) hm).mono ?_;rintro e w2 ⟨v,rfl,hown,hb2⟩;have cy:bE (B_ w.heap.size w w2):=(((Kp _ w).alloc (Ki _) _).alloc zw _).trans (hb2.mono ZcF);have HS:bE (w2.heap[w.heap.size]? =o_ (c_ #[i_ j_ Me,.map (o_ b)] 78)):=(hb2.block _ ZcF).trans ((PU zw).trans (Kj _ _));obtain ⟨a,cap,hv,hrow⟩:=cr hown;have HR:bE (Row w2 a (m.map fun p=> i_ j_ p.1)):=hrow;rw [hv];clear hv hown hrow hb2 v;go_wp2_with fail
 go_loopw [3,11] (fun l i wr=> ∃ k:Nat,k<=m.length/\i=i_ j_ k/\ ∃ a' cap',l=s_ a' k cap'/\bE (wr.ownsRow w2.heap.size 180 1 (s_ a' k cap') k ((m.take k).map fun p=>dt p.2)/\B_ w2.heap.size w2 wr)) (fun _ i _=>m.length - (intOf i).toNat)
 case atStart=>exact ⟨0,Ky _,rfl,n_,0,rfl,⟨Ke _ _ _ _,Kp _ _⟩⟩
 case round=>
  obtain ⟨k,hk,rfl,a',cap',rfl,HO⟩:=hrel;by_cases hlt:k < m.length
  .have qE:(0:Int)<=(k:Int):=zo
   have i1:(k:Int) < (m.length:Int):=zo
   obtain ⟨p,hp⟩: ∃ p,m[k]? =o_ p:=⟨_,Kz hlt⟩
   have hpm:=KA hp;obtain ⟨g,ha,hc⟩:=(HR.I.below HO.I.2) k (i_ j_ p.1) Zdg;subst ha;have oE:=cy.I.size;have kT:=HO.I.2.size;have ut:cF wr b m:=HM.I.1.below (cy.I.trans (HO.I.2.mono oE));have hlk:=ut.look underlying76 (qW wr) (HM.I.2 p hpm) false;rw [jI ut.2 hpm] at hlk;have hsw:wr.heap[w.heap.size]? =o_ (c_ #[i_ j_ Me,.map (o_ b)] 78):=(HO.I.2.block _ (J2.1 HS.I).1).trans HS.I;have s1:wr.cell? ⟨w.heap.size,1,n_⟩=o_ (.map (o_ b)):=by simp [World.cell?,hsw]
   have HP:bE (m[k]? =o_ p):=hp;simp only [qz,dt,J5,if_false] at hlk;clear hp hpm ut hsw;go_wp2_with (at_builtin; refine KD _ rfl _ _ 178 rfl w2.heap.size 180 i0 (p_ n_) 1 8 underlying178 HI.I.1 HI.I.2.1 HI.I.2.2.1 HI.I.2.2.2 rfl (by decide) (s_ a' k cap') k ((m.take k).map fun p=>dt p.2) rfl (HO.I.1.alloc _) ⟨wr.heap.size,0,n_⟩ 1 1 [p_ (o_ ⟨p.2,0,n_⟩)] (by rfl) rfl (KE (cs:= #[p_ (o_ ⟨p.2,0,n_⟩)]) (t:=180) (fr:=(0,0)) (Kj wr _)) ZcP ZcI zo ZcF ?_; intro v' w5 hown' hgrow hnil jV; obtain ⟨a5,im,rfl,-⟩:=cr hown'; have HN:bE (w5.ownsRow w2.heap.size 180 1 (s_ a5 (k+1) im) (k+1) ((m.take (k+1)).map fun p=>dt p.2)/\B_ w2.heap.size w2 w5):=⟨by rw [cj HP.I,Kl]; exact hown',(HO.I.2.alloc kT _).grown hgrow ZcF (fun q hq=>(HO.I.1.lt q hq).1)⟩; clear hown' hgrow hnil jV);exact l_
  .exact mt
def yI (mb:Option Nat) (W:w_):k_ J3 139 #[.map mb] W fun e w'=>e=r_ (.func (.func 178) #[] #[p_ (o_ ⟨W.heap.size,0,n_⟩)])/\w'=W.alloc (c_ #[.map mb] 70):=
 (LO (n:=5)).1 (RC Tryz.keysSem Fence.wide 5 trivial rfl mb W)
def qR (Bm b:Nat) (m:df) (W:w_) (hBm:Bm < W.heap.size) (hc:W.cell? ⟨Bm,0,n_⟩=o_ (.map (o_ b))) (h:cF W b m) (hm:m.length<=1048576):
  k_ J3 135 #[.func (.func 178) #[] #[p_ (o_ ⟨Bm,0,n_⟩)]] W fun e w'=> ∃ v:v_,e=r_ v/\w'.ownsRow W.heap.size 2 1 v m.length (m.map fun p=> i_ j_ p.1)/\B_ W.heap.size W w':=by
 have hsz:Maps.size (gA m)=m.length:=size_map m;have hseq:SeqGives Fence.wide 2 J3 178 #[p_ (o_ ⟨Bm,0,n_⟩)] encZ (fun ss=>ss.Perm (intKeys (gA m))) (Maps.size (gA m)) W:=
  RD (ρ:=Tryz.keysSem_ren) { Tryz.keysSem with } Fence.wide _ trivial rfl zo Bm b m.length (gA m) W hBm hc h.1
 have cS:=RE Tryz.sortedA Fence.wide 5 trivial trivial trivial trivial rfl zo (Tryz.sortsA _) (LP func176 ZcE rfl) 178 #[p_ (o_ ⟨Bm,0,n_⟩)] trivial (LP func178 ZcE rfl) _ _ ZcY Zdh _ hseq
 exact ir
def CX:(Tryz.prog.info? 174).map (fun i=>(i.zero,i.size,i.bytes))=o_ (o_ (p_ n_),1,8):=by kernel_rfl
def CS (Me:Int) (b:Nat) (m:df) (w:w_) (h:cF w b m) (hm:m.length<=1048576) (hwf: ∀ p∈m,(Lit.int j_ p.1).wf=true):
  k_ J3 105 #[a_ #[i_ j_ Me,.map (o_ b)]] w fun e w'=> ∃ a cap,e=r_ (s_ a m.length cap)/\w'.ownsRow w.heap.size 174 1 (s_ a m.length cap) m.length (m.map fun p=>dt p.2)/\B_ w.heap.size w w':=by
 obtain ⟨i0,hi,e0⟩:=Kw.1 CX;simp only [Kx] at e0;have HI:bE (Tryz.prog.info? 174=o_ i0/\i0.zero=o_ (p_ n_)/\i0.size=1/\i0.bytes=8):=⟨hi,e0⟩
 have HM:bE (cF w b m/\ ∀ p∈m,(Lit.int j_ p.1).wf=true):=⟨h,hwf⟩
 have hbl:b < w.heap.size:=h.lt;clear hi e0 h hwf
 go_enter func105,ntmps105
 go_wp2_with (go_at_call 139; refine (yI _ _).mono ?_; rintro e w' ⟨rfl,rfl⟩);refine (qR (w.heap.size+1) b m _ zw zw (HM.I.1.below (((Kp _ w).alloc (Ki _) _).alloc zw _)) hm).mono ?_;rintro e w2 ⟨v,rfl,hown,hb2⟩;have cy:bE (B_ w.heap.size w w2):=(((Kp _ w).alloc (Ki _) _).alloc zw _).trans (hb2.mono ZcF);have HS:bE (w2.heap[w.heap.size]? =o_ (c_ #[i_ j_ Me,.map (o_ b)] 72)):=(hb2.block _ ZcF).trans ((PU zw).trans (Kj _ _));obtain ⟨a,cap,hv,hrow⟩:=cr hown;have HR:bE (Row w2 a (m.map fun p=> i_ j_ p.1)):=hrow;rw [hv];clear hv hown hrow hb2 v;go_wp2_with fail
 go_loopw [3,11] (fun l i wr=> ∃ k:Nat,k<=m.length/\i=i_ j_ k/\ ∃ a' cap',l=s_ a' k cap'/\bE (wr.ownsRow w2.heap.size 174 1 (s_ a' k cap') k ((m.take k).map fun p=>dt p.2)/\B_ w2.heap.size w2 wr)) (fun _ i _=>m.length - (intOf i).toNat)
 case atStart=>exact ⟨0,Ky _,rfl,n_,0,rfl,⟨Ke _ _ _ _,Kp _ _⟩⟩
 case round=>
  obtain ⟨k,hk,rfl,a',cap',rfl,HO⟩:=hrel;by_cases hlt:k < m.length
  .have qE:(0:Int)<=(k:Int):=zo
   have i1:(k:Int) < (m.length:Int):=zo
   obtain ⟨p,hp⟩: ∃ p,m[k]? =o_ p:=⟨_,Kz hlt⟩
   have hpm:=KA hp;obtain ⟨g,ha,hc⟩:=(HR.I.below HO.I.2) k (i_ j_ p.1) Zdg;subst ha;have oE:=cy.I.size;have kT:=HO.I.2.size;have ut:cF wr b m:=HM.I.1.below (cy.I.trans (HO.I.2.mono oE));have hlk:=ut.look underlying70 (vU wr) (HM.I.2 p hpm) false;rw [jI ut.2 hpm] at hlk;have hsw:wr.heap[w.heap.size]? =o_ (c_ #[i_ j_ Me,.map (o_ b)] 72):=(HO.I.2.block _ (J2.1 HS.I).1).trans HS.I;have s1:wr.cell? ⟨w.heap.size,1,n_⟩=o_ (.map (o_ b)):=by simp [World.cell?,hsw]
   have HP:bE (m[k]? =o_ p):=hp;simp only [qz,dt,J5,if_false] at hlk;clear hp hpm ut hsw;go_wp2_with (at_builtin; refine KD _ rfl _ _ 172 rfl w2.heap.size 174 i0 (p_ n_) 1 8 underlying172 HI.I.1 HI.I.2.1 HI.I.2.2.1 HI.I.2.2.2 rfl (by decide) (s_ a' k cap') k ((m.take k).map fun p=>dt p.2) rfl (HO.I.1.alloc _) ⟨wr.heap.size,0,n_⟩ 1 1 [p_ (o_ ⟨p.2,0,n_⟩)] (by rfl) rfl (KE (cs:= #[p_ (o_ ⟨p.2,0,n_⟩)]) (t:=174) (fr:=(0,0)) (Kj wr _)) ZcP ZcI zo ZcF ?_; intro v' w5 hown' hgrow hnil jV; obtain ⟨a5,im,rfl,-⟩:=cr hown'; have HN:bE (w5.ownsRow w2.heap.size 174 1 (s_ a5 (k+1) im) (k+1) ((m.take (k+1)).map fun p=>dt p.2)/\B_ w2.heap.size w2 w5):=⟨by rw [cj HP.I,Kl]; exact hown',(HO.I.2.alloc kT _).grown hgrow ZcF (fun q hq=>(HO.I.1.lt q hq).1)⟩; clear hown' hgrow hnil jV);exact l_
  .exact mt
def vq (mb:Option Nat) (W:w_):k_ J3 140 #[.map mb] W fun e w'=>e=r_ (.func (.func 179) #[] #[p_ (o_ ⟨W.heap.size,0,n_⟩)])/\w'=W.alloc (c_ #[.map mb] 73):=
 (LO (n:=5)).1 (RC Tryz.keysEvent Fence.wide 5 trivial rfl mb W)
def pD (Bm b:Nat) (m:df) (W:w_) (hBm:Bm < W.heap.size) (hc:W.cell? ⟨Bm,0,n_⟩=o_ (.map (o_ b))) (h:cF W b m) (hm:m.length<=1048576):
  k_ J3 135 #[.func (.func 179) #[] #[p_ (o_ ⟨Bm,0,n_⟩)]] W fun e w'=> ∃ v:v_,e=r_ v/\w'.ownsRow W.heap.size 2 1 v m.length (m.map fun p=> i_ j_ p.1)/\B_ W.heap.size W w':=by
 have hsz:Maps.size (gA m)=m.length:=size_map m;have hseq:SeqGives Fence.wide 2 J3 179 #[p_ (o_ ⟨Bm,0,n_⟩)] encZ (fun ss=>ss.Perm (intKeys (gA m))) (Maps.size (gA m)) W:=
  RD (ρ:=Tryz.keysEvent_ren) { Tryz.keysEvent with } Fence.wide _ trivial rfl zo Bm b m.length (gA m) W hBm hc h.1
 have cS:=RE Tryz.sortedA Fence.wide 5 trivial trivial trivial trivial rfl zo (Tryz.sortsA _) (LP func176 ZcE rfl) 179 #[p_ (o_ ⟨Bm,0,n_⟩)] trivial (LP func179 ZcE rfl) _ _ ZcY Zdh _ hseq
 exact ir
def zk:(Tryz.prog.info? 177).map (fun i=>(i.zero,i.size,i.bytes))=o_ (o_ (p_ n_),1,8):=by kernel_rfl
def yh (Me:Int) (b:Nat) (m:df) (w:w_) (h:cF w b m) (hm:m.length<=1048576) (hwf: ∀ p∈m,(Lit.int j_ p.1).wf=true):
  k_ J3 106 #[a_ #[i_ j_ Me,.map (o_ b)]] w fun e w'=> ∃ a cap,e=r_ (s_ a m.length cap)/\w'.ownsRow w.heap.size 177 1 (s_ a m.length cap) m.length (m.map fun p=>dt p.2)/\B_ w.heap.size w w':=by
 obtain ⟨i0,hi,e0⟩:=Kw.1 zk;simp only [Kx] at e0;have HI:bE (Tryz.prog.info? 177=o_ i0/\i0.zero=o_ (p_ n_)/\i0.size=1/\i0.bytes=8):=⟨hi,e0⟩
 have HM:bE (cF w b m/\ ∀ p∈m,(Lit.int j_ p.1).wf=true):=⟨h,hwf⟩
 have hbl:b < w.heap.size:=h.lt;clear hi e0 h hwf
 go_enter func106,ntmps106
 go_wp2_with (go_at_call 140; refine (vq _ _).mono ?_; rintro e w' ⟨rfl,rfl⟩);refine (pD (w.heap.size+1) b m _ zw zw (HM.I.1.below (((Kp _ w).alloc (Ki _) _).alloc zw _)) hm).mono ?_;rintro e w2 ⟨v,rfl,hown,hb2⟩;have cy:bE (B_ w.heap.size w w2):=(((Kp _ w).alloc (Ki _) _).alloc zw _).trans (hb2.mono ZcF);have HS:bE (w2.heap[w.heap.size]? =o_ (c_ #[i_ j_ Me,.map (o_ b)] 75)):=(hb2.block _ ZcF).trans ((PU zw).trans (Kj _ _));obtain ⟨a,cap,hv,hrow⟩:=cr hown;have HR:bE (Row w2 a (m.map fun p=> i_ j_ p.1)):=hrow;rw [hv];clear hv hown hrow hb2 v;go_wp2_with fail
 go_loopw [3,11] (fun l i wr=> ∃ k:Nat,k<=m.length/\i=i_ j_ k/\ ∃ a' cap',l=s_ a' k cap'/\bE (wr.ownsRow w2.heap.size 177 1 (s_ a' k cap') k ((m.take k).map fun p=>dt p.2)/\B_ w2.heap.size w2 wr)) (fun _ i _=>m.length - (intOf i).toNat)
 case atStart=>exact ⟨0,Ky _,rfl,n_,0,rfl,⟨Ke _ _ _ _,Kp _ _⟩⟩
 case round=>
  obtain ⟨k,hk,rfl,a',cap',rfl,HO⟩:=hrel;by_cases hlt:k < m.length
  .have qE:(0:Int)<=(k:Int):=zo
   have i1:(k:Int) < (m.length:Int):=zo
   obtain ⟨p,hp⟩: ∃ p,m[k]? =o_ p:=⟨_,Kz hlt⟩
   have hpm:=KA hp;obtain ⟨g,ha,hc⟩:=(HR.I.below HO.I.2) k (i_ j_ p.1) Zdg;subst ha;have oE:=cy.I.size;have kT:=HO.I.2.size;have ut:cF wr b m:=HM.I.1.below (cy.I.trans (HO.I.2.mono oE));have hlk:=ut.look underlying73 (rE wr) (HM.I.2 p hpm) false;rw [jI ut.2 hpm] at hlk;have hsw:wr.heap[w.heap.size]? =o_ (c_ #[i_ j_ Me,.map (o_ b)] 75):=(HO.I.2.block _ (J2.1 HS.I).1).trans HS.I;have s1:wr.cell? ⟨w.heap.size,1,n_⟩=o_ (.map (o_ b)):=by simp [World.cell?,hsw]
   have HP:bE (m[k]? =o_ p):=hp;simp only [qz,dt,J5,if_false] at hlk;clear hp hpm ut hsw;go_wp2_with (at_builtin; refine KD _ rfl _ _ 175 rfl w2.heap.size 177 i0 (p_ n_) 1 8 underlying175 HI.I.1 HI.I.2.1 HI.I.2.2.1 HI.I.2.2.2 rfl (by decide) (s_ a' k cap') k ((m.take k).map fun p=>dt p.2) rfl (HO.I.1.alloc _) ⟨wr.heap.size,0,n_⟩ 1 1 [p_ (o_ ⟨p.2,0,n_⟩)] (by rfl) rfl (KE (cs:= #[p_ (o_ ⟨p.2,0,n_⟩)]) (t:=177) (fr:=(0,0)) (Kj wr _)) ZcP ZcI zo ZcF ?_; intro v' w5 hown' hgrow hnil jV; obtain ⟨a5,im,rfl,-⟩:=cr hown'; have HN:bE (w5.ownsRow w2.heap.size 177 1 (s_ a5 (k+1) im) (k+1) ((m.take (k+1)).map fun p=>dt p.2)/\B_ w2.heap.size w2 w5):=⟨by rw [cj HP.I,Kl]; exact hown',(HO.I.2.alloc kT _).grown hgrow ZcF (fun q hq=>(HO.I.1.lt q hq).1)⟩; clear hown' hgrow hnil jV);exact l_
  .exact mt
end
section
open Go.Maps
attribute [local go_sem ↓] Kc Kd
def tj (r:Option (ao × Nat)) (x:ao × Nat):Option (ao × Nat):=match r with
 | none=>o_ x
 | some b=>if dF x.1.toaD b.1.toaD then o_ x else o_ b
def li (l:List (ao × Nat)):Option (ao × Nat):=l.foldl tj n_
def nH (l:List (ao × Nat)) (x:ao × Nat):li (l ++ [x])=tj (li l) x:=by simp [li]
def CV (r:Option (ao × Nat)) (x:ao × Nat): ∃ y,tj r x=o_ y/\(y=x\/r=o_ y):=by
 unfold tj
 split
 .exact ⟨_,rfl,.inl rfl⟩
 .split
  .exact ⟨_,rfl,.inl rfl⟩
  .exact ⟨_,rfl,.inr rfl⟩
def ql {l:List (ao × Nat)} : ∀ {k:Nat},0 < k->k<=l.length-> ∃ y,li (l.take k)=o_ y/\y∈l
 | 0,h,_=>absurd h zo
 | k+1,_,hk=>by
  obtain ⟨x,hx⟩: ∃ x,l[k]? =o_ x:=⟨_,Kz zo⟩
  rw [cj hx,nH];obtain ⟨y,hy,h1⟩:=CV (li (l.take k)) x;refine ⟨y,hy,?_⟩;rcases h1 with rfl | h1
  .exact KA hx
  .by_cases h0:0 < k
   .obtain ⟨z,hz,hm⟩:=ql h0 (by omega:k<=l.length)
    rw [hz] at h1;cases h1;exact hm
   .rw [show k=0 by omega] at h1
    simp [li] at h1
def vj (l:List (ao × Nat)):(li l).map (fun p=>p.1.toaD)=jo (l.map fun p=>p.1.toaD):=by
 have key: ∀ (l:List (ao × Nat)) (r:Option (ao × Nat)),(l.foldl tj r).map (fun p=>p.1.toaD)=(l.map fun p=>p.1.toaD).foldl iy (r.map fun p=>p.1.toaD):=by
  intro l
  induction l with
  | nil=>intro r; rfl
  | cons x l ih=>
   intro r;simp only [List.foldl_cons,Lt,ih]
   congr 1
   cases r with
   | none=>rfl
   | some b=>
    simp only [tj,iy,J9]
    split <;> rfl
 exact key l n_
def et (l:List (ao × Nat)):List (ao × Nat):=l.filter fun p=>decide (p.1.Md=1)
def sV (l:List (ao × Nat)) (p:ao × Nat):et (l ++ [p])=et l ++ (if p.1.Md=1 then [p] else []):=by
 unfold et;rw [QN];by_cases h:p.1.Md=1 <;> simp [h]
def sI (l:List (ao × Nat)):(et l).map (fun p=>p.1.toaD)=(l.map fun p=>p.1.toaD).filter fun x=>decide (x.Md=1):=by
 unfold et;rw [List.filter_map];rfl
def yX (A B:Nat) (a b:ao) (w:w_) (ha:w.heap[A]? =o_ (c_ (aX a) 41)) (hb:w.heap[B]? =o_ (c_ (aX b) 41)):
  k_ J3 70 #[p_ (o_ ⟨A,0,n_⟩),p_ (o_ ⟨B,0,n_⟩)] w fun e w'=>e=r_ (b_ (dF a.toaD b.toaD))/\B_ w.heap.size w w':=by
 obtain ⟨-,a1,-,-,-,-,-,-,-,-,-,a11⟩:=bo ha;obtain ⟨-,b1,-,-,-,-,-,-,-,-,-,b11⟩:=bo hb;clear ha hb
 go_enter func70,ntmps70
 by_cases hp:a.RX=b.RX
 .have e1:(a.RX != b.RX)=false:=by simp [hp]
  by_cases hs:a.RU < b.RU
  .have ds:decide (a.RU < b.RU)=true:=decide_eq_true hs
   have HV:bE (dF a.toaD b.toaD=true):=by show dF _ _=_; unfold dF; rw [if_pos hp]; exact ds
   exact ac
  .have ds:decide (a.RU < b.RU)=false:=decide_eq_false hs
   have HV:bE (dF a.toaD b.toaD=false):=by show dF _ _=_; unfold dF; rw [if_pos hp]; exact ds
   exact ac
 .have e1:(a.RX != b.RX)=true:=by simp [hp]
  by_cases hs:b.RX < a.RX
  .have ds:decide (b.RX < a.RX)=true:=decide_eq_true hs
   have HV:bE (dF a.toaD b.toaD=true):=by show dF _ _=_; unfold dF; rw [if_neg hp]; exact ds
   exact ac
  .have ds:decide (b.RX < a.RX)=false:=decide_eq_false hs
   have HV:bE (dF a.toaD b.toaD=false):=by show dF _ _=_; unfold dF; rw [if_neg hp]; exact ds
   exact ac
def wn (a:Option d_) (l:List (ao × Nat)) (cap:Nat) (w:w_) (hl:l.length<=1048576) (hr:Row w a (l.map fun p=>dt p.2)) (hb: ∀ p∈l,w.heap[p.2]? =o_ (c_ (aX p.1) 41)):
  k_ J3 59 #[s_ a l.length cap,.func (.func 70) #[] #[]] w fun e w'=>e=r_ (u_ #[qz ((li l).map (·.2)),b_ (decide (0 < l.length))])/\B_ w.heap.size w w':=by
 have H:bE (Row w a (l.map fun p=>dt p.2)/\ ∀ p∈l,w.heap[p.2]? =o_ (c_ (aX p.1) 41)):=⟨hr,hb⟩
 clear hr hb
 go_enter func59,ntmps59
 go_wp2_with fail
 go_loopw [6,11] (fun b i wr=> ∃ (k:Nat) (r:Option (ao × Nat)),k<=l.length/\i=i_ j_ k/\b=qz (r.map (·.2))/\bE (r=li (l.take k)/\B_ w.heap.size w wr)) (fun _ i _=>l.length - (intOf i).toNat)
 case atStart=>exact ⟨0,n_,Ky _,rfl,rfl,⟨by simp [li],Kp _ _⟩⟩
 case round=>
  obtain ⟨k,r,hk,rfl,rfl,HA⟩:=hrel;by_cases hlt:k < l.length
  .have i0:(0:Int)<=(k:Int):=zo
   have i1:(k:Int) < (l.length:Int):=zo
   obtain ⟨p,hp⟩: ∃ p,l[k]? =o_ p:=⟨_,Kz hlt⟩
   obtain ⟨g,ha,hc⟩:=(H.I.1.below HA.I.2) k (dt p.2) Zdg;subst ha;unfold dt at hc;have HP:bE (l[k]? =o_ p/\p∈l):=⟨hp,KA hp⟩
   clear hp;by_cases hk0:k=0
   .have e0:((k:Int) == 0)=true:=by simp [hk0]
    have HS:bE (o_ p=li (l.take (k+1))):=by show _=_; rw [cj HP.I.1,nH,hk0]; rfl
    exact Zbe
   .have e0:((k:Int) == 0)=false:=by simp [hk0]
    obtain ⟨y,hy,hym⟩:=ql (l:=l) (by omega:0 < k) hk;have hry:r=o_ y:=HA.I.1.trans hy;subst hry;have HQ:bE (li (l.take k)=o_ y/\y∈l):=⟨hy,hym⟩
    clear hk0 hy hym;simp only [qz,dt,J9];go_wp2_with fail;refine (yX p.2 y.2 p.1 y.1 wr ((HA.I.2.block _ (J2.1 (H.I.2 p HP.I.2)).1).trans (H.I.2 p HP.I.2)) ((HA.I.2.block _ (J2.1 (H.I.2 y HQ.I.2)).1).trans (H.I.2 y HQ.I.2))).mono ?_;rintro e w4 ⟨rfl,hb4⟩;have HB4:bE (B_ w.heap.size w w4):=HA.I.2.trans (hb4.mono HA.I.2.size);clear hb4;cases FT:dF p.1.toaD y.1.toaD with
    | true=>
     have HS:bE (o_ p=li (l.take (k+1))):=by show _=_; rw [cj HP.I.1,nH,HQ.I.1]; simp [tj,FT]
     exact Zbf
    | false=>
     have HS:bE (o_ y=li (l.take (k+1))):=by show _=_; rw [cj HP.I.1,nH,HQ.I.1]; simp [tj,FT]
     exact Zbg
  .have i1: ¬ (k:Int) < (l.length:Int):=zo
   have HE:bE (r=li l):=by have h5:=HA.I.1; rwa [KF zo] at h5
   go_wp2;go_ret2;refine ⟨?_,HA.I.2⟩;rw [HE.I];simp
def EA (o:Nat) (q:ol) (lp:List (ao × Nat)) (bj:Nat) (w:w_) (hop:fa w o q) (hsh:Shelf aX (fun x:ao=>x.id) 41 w bj q.bp lp) (hl:lp.length<=1048576) (hwf: ∀ p∈RW (fun x:ao=>x.id) lp,(Lit.int j_ p.1).wf=true):
  k_ J3 69 #[p_ (o_ ⟨o,0,n_⟩)] w fun e w'=>(∃ a cap,e=r_ (s_ a (et lp).length cap)/\Row w' a ((et lp).map fun p=>dt p.2))/\B_ w.heap.size w w':=by
 obtain ⟨i0,hi,e0⟩:=Kw.1 sQ;simp only [Kx] at e0;have HI:bE (Tryz.prog.info? 64=o_ i0/\i0.zero=o_ (p_ n_)/\i0.size=1/\i0.bytes=8):=⟨hi,e0⟩
 have H:bE (Shelf aX (fun x:ao=>x.id) 41 w bj q.bp lp/\ ∀ p∈RW (fun x:ao=>x.id) lp,(Lit.int j_ p.1).wf=true):=⟨hsh,hwf⟩
 have c2:w.cell? ⟨o,2,n_⟩=o_ (i_ j_ 6):=hop.cell 2;have c3:w.cell? ⟨o,3,n_⟩=o_ (.map (o_ q.bp)):=hop.cell 3;have HK:bE ((RW (fun x:ao=>x.id) lp).length=lp.length):=bZ lp;clear hop hsh hwf hi e0
 go_enter func69,ntmps69
 go_wp2_with fail;refine (mq 6 q.bp (RW (fun x:ao=>x.id) lp) w H.I.1.map ZcV H.I.2).mono ?_;rintro e w2 ⟨a,cap,rfl,hown,hb2⟩;obtain ⟨a',cap',hv,hrow⟩:=cr hown;cases hv;have HR:bE (Row w2 a ((RW (fun x:ao=>x.id) lp).map fun p=>dt p.2)):=hrow;have HO:bE (Shelf aX (fun x:ao=>x.id) 41 w2 bj q.bp lp/\B_ w.heap.size w w2):=⟨H.I.1.below hb2,hb2⟩
 rw [HK.I];clear hown hrow hb2 c2 c3;go_wp2_with fail
 go_loopw [3,12] (fun l i wr=> ∃ (k n:Nat),k<=lp.length/\n<=k/\i=i_ j_ k/\ ∃ a' cap',l=s_ a' n cap'/\bE (n=(et (lp.take k)).length/\wr.ownsRow w2.heap.size 64 1 (s_ a' n cap') n ((et (lp.take k)).map fun p=>dt p.2)/\B_ w2.heap.size w2 wr)) (fun _ i _=>lp.length - (intOf i).toNat)
 case atStart=>exact ⟨0,0,Ky _,Ki _,rfl,n_,0,rfl,⟨rfl,Ke _ _ _ _,Kp _ _⟩⟩
 case round=>
  obtain ⟨k,n,hk,hn,rfl,a',cap',rfl,HA⟩:=hrel;by_cases hlt:k < lp.length
  .have qE:(0:Int)<=(k:Int):=zo
   have i1:(k:Int) < (lp.length:Int):=zo
   obtain ⟨p,hp⟩: ∃ p,lp[k]? =o_ p:=⟨_,Kz hlt⟩
   obtain ⟨g,ha,hc⟩:=(HR.I.below HA.I.2.2) k (dt p.2) ZcZ;subst ha;unfold dt at hc;have HP:bE (lp[k]? =o_ p):=hp;have lW:wr.heap[p.2]? =o_ (c_ (aX p.1) 41):=(HO.I.1.below HA.I.2.2).box p (KA hp);obtain ⟨-,-,-,s3,-⟩:=bo lW;have kT:=HA.I.2.2.size;clear hp lW;by_cases hs:p.1.Md=1
   .have e1:(p.1.Md == 1)=true:=by simp [hs]
    have SC:bE ((et (lp.take (k+1)))=(et (lp.take k)) ++ [p]):=by show _=_; rw [cj HP.I,sV,if_pos hs]
    clear hs;go_wp2_with (at_builtin; refine KD _ rfl _ _ 130 rfl w2.heap.size 64 i0 (p_ n_) 1 8 underlying130 HI.I.1 HI.I.2.1 HI.I.2.2.1 HI.I.2.2.2 rfl (by decide) (s_ a' n cap') n ((et (lp.take k)).map fun p=>dt p.2) rfl (HA.I.2.1.alloc _) ⟨wr.heap.size,0,n_⟩ 1 1 [p_ (o_ ⟨p.2,0,n_⟩)] (by rfl) rfl (KE (cs:= #[p_ (o_ ⟨p.2,0,n_⟩)]) (t:=64) (fr:=(0,0)) (Kj wr _)) ZcP ZcI zo ZcF ?_; intro v' w5 hown' hgrow hnil jV; obtain ⟨a5,im,rfl,-⟩:=cr hown'; have HN:bE (n+1=(et (lp.take (k+1))).length/\w5.ownsRow w2.heap.size 64 1 (s_ a5 (n+1) im) (n+1) ((et (lp.take (k+1))).map fun p=>dt p.2)/\B_ w2.heap.size w2 w5):=⟨by rw [SC.I,Lf,<- HA.I.1]; rfl,by rw [SC.I,Kl]; exact hown',(HA.I.2.2.alloc kT _).grown hgrow ZcF (fun q hq=>(HA.I.2.1.lt q hq).1)⟩; clear hown' hgrow hnil jV);exact Zao
   .have e1:(p.1.Md == 1)=false:=by simp [hs]
    have SC:bE ((et (lp.take (k+1)))=(et (lp.take k))):=by show _=_; rw [cj HP.I,sV,if_neg hs,QO]
    clear hs;go_wp2;go_roundw
    case rel=>exact ⟨k+1,n,zo,zo,by go_num,a',cap',rfl,by show _/\_; rw [SC.I]; exact HA.I⟩
    case measure=>simp [intOf]; omega
  .have i1: ¬ (k:Int) < (lp.length:Int):=zo
   have HE:bE (n=(et lp).length/\Row wr a' ((et lp).map fun p=>dt p.2)):=by
    have h5:=HA.I;rw [KF zo] at h5;exact Zbk
   exact Zbu
def Cm (o:Nat) (q:ol) (lp:List (ao × Nat)) (bj:Nat) (w:w_) (hop:fa w o q) (hsh:Shelf aX (fun x:ao=>x.id) 41 w bj q.bp lp) (hl:lp.length<=1048576) (hwf: ∀ p∈RW (fun x:ao=>x.id) lp,(Lit.int j_ p.1).wf=true):
  k_ J3 34 #[p_ (o_ ⟨o,0,n_⟩)] w fun e w'=>e=r_ (u_ #[qz ((li (et lp)).map (·.2)),b_ (decide (0 < (et lp).length))])/\B_ w.heap.size w w':=by
 have H:bE (fa w o q/\Shelf aX (fun x:ao=>x.id) 41 w bj q.bp lp/\ ∀ p∈RW (fun x:ao=>x.id) lp,(Lit.int j_ p.1).wf=true):=⟨hop,hsh,hwf⟩
 have HLR:bE ((et lp).length<=1048576):=LG (Qq _ _) hl;clear hop hsh hwf
 go_enter func34,ntmps34
 go_wp2_with fail;refine (EA o q lp bj w H.I.1 H.I.2.1 hl H.I.2.2).mono ?_;rintro e w2 ⟨⟨a,cap,rfl,hr⟩,hb2⟩;have HB:bE (Row w2 a ((et lp).map fun p=>dt p.2)/\B_ w.heap.size w w2/\ ∀ p∈et lp,w2.heap[p.2]? =o_ (c_ (aX p.1) 41)):=⟨hr,hb2,fun p hp=>(H.I.2.1.below hb2).box p (L2.1 hp).1⟩
 clear hr hb2;go_wp2_with fail;refine (wn a (et lp) cap w2 HLR.I HB.I.1 HB.I.2.2).mono ?_;rintro e w3 ⟨rfl,hb3⟩;have oh:bE (B_ w.heap.size w w3):=HB.I.2.1.trans (hb3.mono HB.I.2.1.size);clear hb3;go_wp2;go_ret2;exact ⟨rfl,oh.I⟩
end
end Go.Proofs.YtfncpmaefninjaaGreatDoor
