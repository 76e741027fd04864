/- What the proof leans on, part 9. -/
import Derived.Test.YtckenjkcmajicaaGreatOwnG4
import Derived.Test.YtckenjkcmajicaaGreatOwnG6
set_option linter.all false
set_option maxRecDepth 100000
set_option maxHeartbeats 8000000
open Go.Proofs.Tryz
open Go renaming World->w_,Value->v_,Calls->k_,Addr->d_,TypeId->T_
open Go.Ending renaming returned->r_
open Go.IntKind renaming i64->j_
open Go.Obj renaming cells->c_
open Go.RowKit renaming Below->B_,Hid->da
open Go.Value renaming int->i_,slice->s_,bool->b_,string->t_,agg->a_,pointer->p_,tuple->u_
open Option renaming some->o_,none->n_
open Go renaming wp_at_succ->Kd,wp_at_zero->Kc
open Go.Proofs.Tryz renaming prog->J3,underlying3->QY
open Go.RowKit renaming run_makeMap->P4

open Go.RowKit
namespace Go.Proofs.YtckenjkcmajicaaGreat
section
open Go.Maps
attribute [local go_sem ↓] Kc Kd
def DV (w:World):(zeroValue 3).run J3 w=.ok (.int .i64 0) w:=ZbG
def hO (w:World)(b:Nat)(L:List Int):Prop:=∃D:DataW Unit,w.ownsMap J3 2 (plainElem J3 3) b L.length D/\IsMap D/\∀z:Int,D.atKey (.int .i64 z) (.lit (.int .i64 0))=.lit (.int .i64 (if z∈L then 1 else 0))
def hO.none {w:World}{b:Nat}(hb:w.heap[b]? =some (.map #[] 0)):hO w b []:=
 ⟨.map [],⟨#[],0,hb,⟨zy,MapKept.stamped_empty 0,zy⟩,zy,rfl⟩,isMap_empty,λz=>by simp[DataW.atKey]⟩
def hO.lt {w:World}{b:Nat}{L:List Int}(h:hO w b L):b<w.heap.size:=by obtain⟨D,h,_⟩:=h;exact h.lt
def hO.same {w w':World}{b:Nat}{L:List Int}(h:hO w b L)(hs:w'.heap[b]? =w.heap[b]?):hO w' b L:=by
 obtain⟨D,⟨es,clock,hb,r⟩,h2⟩:=h;exact⟨D,⟨es,clock,hs.trans hb,r⟩,h2⟩
def hO.look {w:World}{b:Nat}{L:List Int}(h:hO w b L){z:Int}(hz:(Lit.int .i64 z).wf=true):(Instr.lookup 250 (.map (some b)) (.int .i64 z) false).run J3 w=.ok (.int .i64 (if z∈L then 1 else 0)) w:=by
 obtain⟨D,hown,_,hat⟩:=h;obtain⟨c,hrun,hc,_⟩:=hown.lookup_int jb Tryz.underlying250 QY (DV w) (vX hz);rw[hat z]at hc;simp only[QZ,Q0,true_and]at hc;rw[hrun,hc]
def hO.put {w:World}{b:Nat}{L:List Int}(h:hO w b L)(hl:L.length<=1048576){z:Int}(hz:(Lit.int .i64 z).wf=true)(v:Int)(hv:v=(if z∈L then 1 else 0)+1):
  ∃w',(Instr.mapUpdate 250 (.map (some b)) (.int .i64 z) (.int .i64 v)).run J3 w=.ok () w'/\w.grownBy w' (some b)/\w'.heap.size=w.heap.size/\
   (∀W:World,W.heap=w'.heap->(Instr.lookup 250 (.map (some b)) (.int .i64 z) false).run J3 W=.ok (.int .i64 v) W)/\(z∉L->hO w' b (L++[z])):=by
 obtain⟨D,hown,hm,hat⟩:=h;have hvw:(Lit.int .i64 v).wf=true:=by
  subst hv
  split<;>decide
 obtain⟨w',hrun,ho,ht⟩:=hown.store jb Tryz.underlying250 (Q5 hl (by decide)) (vX hz) (plainElem_int (H:=Unit) QY hvw);refine⟨w',hrun,ht.grown,?_,λW hW=>?_,λhn=>⟨_,by rw[Lf];exact ho,hm.put _ _,λy=>?_⟩⟩
 .obtain ⟨es,clock,es',clock',hb,rfl⟩:=ht
  simp[ChangeMaps.setBlock]
 .have Hw:W.ownsMap J3 2 (plainElem J3 3) b (L.length+1) (D.put (.int .i64 z) (.lit (.int .i64 v))):=by
   obtain⟨es,clock,hb,r⟩:=ho;exact⟨es,clock,by rw[hW];exact hb,r⟩
  obtain⟨c,hr,hc,_⟩:=Hw.lookup_int jb Tryz.underlying250 QY (DV W) (vX hz);rw[atKey_put_same hm (jb.key (vX hz))]at hc;simp only[QZ,Q0,true_and]at hc;rw[hr,hc]
 .by_cases hy:y=z
  .subst hy
   rw[atKey_put_same hm (jb.key (vX hz))];simp[hv,hn]
  .rw [atKey_put_other (λe=>hy (by simpa using e)),hat y]
   simp[hy]
def Cf (l:List (ao×Nat)):List Int:=Hu (l.map λp=>p.1.toaD)
def km (next:Int)(l:List (ao×Nat)):Prop:=nQ next (l.map λp=>p.1.toaD)
def we (l:List (ao×Nat))(p:ao×Nat):Cf (l++[p])=Cf l++(if p.1.Md=0 then[]else[p.1.RU]):=by
 simp only[Cf,Hu,Kl,QN,Lt,QV,LN,List.filter_nil];by_cases h:p.1.Md=0<;>simp[h]
def vx {next:Int}{l:List (ao×Nat)}{p:ao×Nat}(h:km next l)(hp:¬p.1.Md=0->1<=p.1.RU/\p.1.RU<next/\p.1.RU∉Cf l):km next (l++[p]):=by
 refine⟨λx hx=>?_,?_⟩
 .rw [Kl]at hx
  rcases Kg.1 hx with hx|hx
  .exact h.1 x hx
  .simp only[Lt,QV,KB]at hx
   subst hx;exactλh0=>⟨(hp h0).1,(hp h0).2.1⟩
 .have e:=we l p
  unfold Cf at e;rw[e];by_cases h0:p.1.Md=0
  .simp only[h0,if_true,QO];exact h.2
  .simp only[h0,if_false]
   refine Kf.2 ⟨h.2,zy,λa ha b hb=>?_⟩;simp only[KB]at hb;subst hb;intro e2;subst e2;exact(hp h0).2.2 ha
def rU {next:Int}{l:List (ao×Nat)}{k:Nat}{p:ao×Nat}(hp:l[k]? =some p)(h0:¬p.1.Md=0)(hb:¬(1<=p.1.RU/\p.1.RU<next/\p.1.RU∉Cf (l.take k))):¬km next l:=λh=>by
 have hm:p.1.toaD∈l.map λp=>p.1.toaD:=Lr.2 ⟨p,KA hp,rfl⟩
 have h1:=h.1 _ hm h0;refine hb ⟨h1.1,h1.2,λhmem=>?_⟩;have e:l=l.take k++p::l.drop (k+1):=kL hp;have h2:=h.2;rw[e]at h2;simp only[Hu,Kl,Lt,QN,LN]at h2;have h0':(!decide (p.1.toaD.Md=0))=true:=ZfI
 rw[if_pos h0',Lt]at h2;exact(Kf.1 h2).2.2 p.1.RU hmem p.1.RU zy rfl
def A6 (w:World)(q:ol)(lp:List (ao×Nat))(e:Ending)(w':World):Prop:=∃ok:Bool,e=.returned (.bool ok)/\(ok=true↔km q.next lp)/\Below w.heap.size w w'
def kO {w w':World}{q:ol}{lp:List (ao×Nat)}(h:¬km q.next lp)(hb:Below w.heap.size w w'):A6 w q lp (.returned (.bool false)) w':=⟨false,rfl,⟨(λh=>ZcF),λh'=>absurd h' h⟩,hb⟩
structure rO (w w2 wr:World)(o:Nat)(q:ol)(lp:List (ao×Nat))(L:List Int):Prop where
 taken:hO wr w.heap.size L
 grown:w2.grownBy wr (some w.heap.size)
def rO.block {w w2 wr:World}{o:Nat}{q:ol}{lp:List (ao×Nat)}{L:List Int}(h:rO w w2 wr o q lp L){g:Nat}(hg:g<w2.heap.size)(hne:¬g=w.heap.size):wr.heap[g]? =w2.heap[g]?:=h.grown.block g hg (λe=>hne (KC e))
def BI (o:Nat)(q:ol)(lp:List (ao×Nat))(ms me mb mf:df)(w:World)(h:kX w w o q lp ms me mb mf)(hl:lp.length<=1048576)(hwf:∀p∈lp,p.1.Wf):
  Calls J3 104 #[.pointer (some ⟨o,0,none⟩)] w λe w'=>A6 w q lp e w':=by
 have hmk:=P4 (P:=J3) 250;have H:da (kX w w o q lp ms me mb mf/\∀p∈lp,p.1.Wf):=⟨h,hwf⟩
 have p7:o<w.heap.size:=(J2.1 h.opn).1;have c2:w.cell? ⟨o,2,none⟩=some (.int .i64 6):=h.opn.cell 2;have c3:w.cell? ⟨o,3,none⟩=some (.map (some q.bp)):=h.opn.cell 3;have HK:da ((RW (λx:ao=>x.id) lp).length=lp.length):=bZ lp;clear h hwf
 go_enter Tryz.func104,Tryz.ntmps104
 go_wp2_with fail;refine(mq 6 q.bp (RW (λx:ao=>x.id) lp) (w.alloc (.map #[] 0)) (H.I.1.eh.map.below ((Kp _ w).alloc (Ki _) _)) ZcS (DE H.I.2)).mono ?_;rintro e w2 ⟨a,cap,rfl,hown,hb2⟩;obtain⟨a',cap',hv,hrow⟩:=cr hown;cases hv;have HR:da (Row w2 a ((RW (λx:ao=>x.id) lp).map λp=>dt p.2)):=hrow;have HRB:da (∀g,a=some ⟨g,0,none⟩->w.heap.size+1<=g/\g<w2.heap.size):=λg hg=>by
  subst hg
  have:=hown.lt g rfl
  simpa using this
 have cy:da (Below w.heap.size w w2):=((Kp _ w).alloc (Ki _) _).trans (hb2.mono zy);have Hz:da (hO w2 w.heap.size []):=hO.none ((hb2.block _ zy).trans (Kj _ _));rw[HK.I];clear hown hrow hb2 c2 c3 hmk;go_wp2_with fail
 go_loopw[13] (λi wr=>∃k:Nat,k<=lp.length/\i=.int .i64 k/\da (km q.next (lp.take k)/\rO w w2 wr o q lp (Cf (lp.take k)))) (λi _=>lp.length-(intOf i).toNat)
 case atStart=>exact⟨0,Ky _,rfl,⟨⟨(λx hx=>by simp at hx),by simp[Hu]⟩,⟨by simpa[Cf,Hu]using Hz.I,⟨rfl,rfl,rfl,Ki _,λ_ _ _=>rfl⟩⟩⟩⟩
 case round=>
  obtain⟨k,hk,rfl,HA⟩:=hrel;have Ez:da (Below w.heap.size w wr):=cy.I.grown HA.I.2.grown cy.I.size (λk hk=>Zfp);by_cases hlt:k<lp.length
  .have i0:(0:Int)<=(k:Int):=zw
   have i1:(k:Int)<(lp.length:Int):=zw
   obtain⟨p,hp⟩:∃p,lp[k]? =some p:=⟨_,Kz hlt⟩
   have hpm:=KA hp;have hrw:=HR.I k (dt p.2) Zdq;obtain⟨g,ha,hc0⟩:=hrw;have hgb:=HRB.I g ha;have hc:wr.cell? ⟨g,k,none⟩=some (.pointer (some ⟨p.2,0,none⟩)):=(J1 (w:=w2) (a:=⟨g,k,none⟩) (HA.I.2.block (g:=g) hgb.2 (λe=>by have h1:=hgb.1;have e':g=w.heap.size:=e;omega))).trans hc0;subst ha;have lD:wr.heap[p.2]? =some (.cells (aX p.1) 125 (0,0)):=(Ez.I.block _ (J2.1 (H.I.1.eh.box p hpm)).1).trans (H.I.1.eh.box p hpm);have hob:fa wr o q:=(Ez.I.block _ p7).trans H.I.1.opn;have HP:da (lp[k]? =some p/\p∈lp):=⟨hp,hpm⟩
   have HW:da ((Lit.int .i64 p.1.RU).wf=true):=(H.I.2 p hpm).RU;have HX:da (wr.heap[p.2]? =some (.cells (aX p.1) 125 (0,0))/\fa wr o q):=⟨lD,hob⟩
   have k3:=(bo lD).2.2.2.1;have k11:=(bo lD).2.2.2.2.2.2.2.2.2.2.2;have hls:(Cf (lp.take k)).length<=1048576:=by
    have h1:(Cf (lp.take k)).length<=(lp.take k).length:=by
     simp only[Cf,Hu,KG];exact LG (Qq _ _) zy
    rw[Lk]at h1;omega
   clear hp hpm hc0 hgb lD hob;by_cases h0:p.1.Md=0
   .have HY:da (km q.next (lp.take (k+1))/\rO w w2 wr o q lp (Cf (lp.take (k+1)))):=by
     rw[cj HP.I.1];refine⟨vx HA.I.1 (λh=>absurd h0 h),?_⟩;rw[we,if_pos h0,QO];exact HA.I.2
    have e0:(p.1.Md==0)=true:=ZfI
    clear h0;go_wp2;go_roundw
    case rel=>exact⟨k+1,zw,by go_num,HY⟩
    case measure=>exact Zcc
   .have e0:(p.1.Md==0)=false:=by simp[h0]
    have H0:da (¬p.1.Md=0):=h0;clear h0;have hlk:=HA.I.2.taken.look HW.I;by_cases hz:p.1.RU∈Cf (lp.take k)
    .rw [if_pos hz]at hlk
     obtain⟨w5,hput,wY,aaX,FJ,-⟩:=HA.I.2.taken.put hls HW.I 2 (by rw[if_pos hz];rfl);have HN:da (¬km q.next lp):=rU HP.I.1 H0.I (λhh=>hh.2.2 hz);have Dk:da (Below w.heap.size w w5):=Ez.I.grown wY Ez.I.size (λk hk=>Zfp);have hx5:w5.heap[p.2]? =some (.cells (aX p.1) 125 (0,0)):=(Dk.I.block _ (J2.1 (H.I.1.eh.box p HP.I.2)).1).trans (H.I.1.eh.box p HP.I.2);have oe:fa w5 o q:=(Dk.I.block _ p7).trans H.I.1.opn;have f11:=(bo hx5).2.2.2.2.2.2.2.2.2.2.2;have f1:w5.cell? ⟨o,1,none⟩=some (.int .i64 q.next):=oe.cell 1;have rL:=FJ w5.drew rfl;clear FJ wY aaX hx5 oe hz;by_cases hA:p.1.RU<1
     .have dA:decide (p.1.RU<1)=true:=decide_eq_true hA
      exact Zbu
     have dA:decide (p.1.RU<1)=false:=decide_eq_false hA;by_cases hB:q.next<=p.1.RU
     .have dB:decide (q.next<=p.1.RU)=true:=decide_eq_true hB
      exact Zbx
     have dB:decide (q.next<=p.1.RU)=false:=decide_eq_false hB;clear hA hB;go_wp2_with fail;refine aT (λw'=>w'=w5.drew) ZbG rfl ?_
     iterate 25 (refine agj ?_)
     refine bk ZbG ?_ _;intro w1 cm;subst cm;go_wp2;go_ret;exact kO HN.I Dk.I.drew
    .rw [if_neg hz]at hlk
     obtain⟨w5,hput,wY,aaX,FJ,htk⟩:=HA.I.2.taken.put hls HW.I 1 (by rw[if_neg hz];rfl);have Dk:da (Below w.heap.size w w5):=Ez.I.grown wY Ez.I.size (λk hk=>Zfp);have EY:da (rO w w2 w5 o q lp (Cf (lp.take k)++[p.1.RU])):=⟨htk hz,⟨wY.os.trans HA.I.2.grown.os,wY.tape.trans HA.I.2.grown.tape,wY.output.trans HA.I.2.grown.output,LG HA.I.2.grown.size wY.size,λk hk hne=>(wY.block k (Kn hk HA.I.2.grown.size) hne).trans (HA.I.2.grown.block k hk hne)⟩⟩
     have HZ:da (¬p.1.RU∈Cf (lp.take k)):=hz;have hx5:w5.heap[p.2]? =some (.cells (aX p.1) 125 (0,0)):=(Dk.I.block _ (J2.1 (H.I.1.eh.box p HP.I.2)).1).trans (H.I.1.eh.box p HP.I.2);have oe:fa w5 o q:=(Dk.I.block _ p7).trans H.I.1.opn;have f11:=(bo hx5).2.2.2.2.2.2.2.2.2.2.2;have f1:w5.cell? ⟨o,1,none⟩=some (.int .i64 q.next):=oe.cell 1;have rL:=FJ w5.drew rfl;clear FJ wY aaX hx5 oe hz htk;by_cases hA:p.1.RU<1
     .have dA:decide (p.1.RU<1)=true:=decide_eq_true hA
      have HN:da (¬km q.next lp):=rU HP.I.1 H0.I (λhh=>by have:=hh.1;omega);exact Zbu
     have dA:decide (p.1.RU<1)=false:=decide_eq_false hA;by_cases hB:q.next<=p.1.RU
     .have dB:decide (q.next<=p.1.RU)=true:=decide_eq_true hB
      have HN:da (¬km q.next lp):=rU HP.I.1 H0.I (λhh=>by have:=hh.2.1;omega);exact Zbx
     have dB:decide (q.next<=p.1.RU)=false:=decide_eq_false hB;have HY:da (km q.next (lp.take (k+1))/\rO w w2 w5 o q lp (Cf (lp.take (k+1)))):=by
      rw[cj HP.I.1];refine⟨vx HA.I.1 (λ_=>⟨zw,zw,HZ.I⟩),?_⟩;rw[we,if_neg H0.I];exact EY.I
     clear hA hB;go_wp2_with fail;refine aT (λw'=>w'=w5.drew) ZbG rfl ?_
     iterate 25 (refine agj ?_)
     refine bk ZbG ?_ _;intro w1 cm;subst cm;go_wp2;go_roundw
     case rel=>exact⟨k+1,zw,by go_num,⟨HY.I.1,⟨HY.I.2.taken.same rfl,⟨HY.I.2.grown.os,HY.I.2.grown.tape,HY.I.2.grown.output,HY.I.2.grown.size,HY.I.2.grown.block⟩⟩⟩⟩
     case measure=>exact Zcc
  .have i1:¬(k:Int)<(lp.length:Int):=zw
   have HT:da (km q.next lp):=Zce
   go_wp2;go_ret;exact⟨true,rfl,⟨λ_=>HT.I,λ_=>rfl⟩,Ez.I⟩
end
section
attribute [local go_sem ↓] Kc Kd
def vY (w:w_)(b:Nat)(m:df)(Me:Int)(x:ao)(w':w_):Prop:=(w'.cell? ⟨w.heap.size,0,n_⟩=o_ (i_ j_ Me)/\w'.cell? ⟨w.heap.size,1,n_⟩=o_ (.map (o_ b))/\(∀ty,(Builtin.len_ #[102] ty #[.map (o_ b)]).run J3 w'=.ok (i_ j_ (m.length:Int)) w')/\w'.cell? ⟨w.heap.size+1,0,n_⟩=o_ (i_ j_ x.id)/\w'.cell? ⟨w.heap.size+1,1,n_⟩=o_ (i_ j_ x.RX)/\w'.cell? ⟨w.heap.size+1,2,n_⟩=o_ (s_ x.aY x.prog.length x.bH)/\w'.cell? ⟨w.heap.size+1,3,n_⟩=o_ (i_ j_ x.Md)/\w'.cell? ⟨w.heap.size+1,4,n_⟩=o_ (i_ j_ x.pc)/\w'.cell? ⟨w.heap.size+1,5,n_⟩=o_ (i_ j_ x.left)/\w'.cell? ⟨w.heap.size+1,6,n_⟩=o_ (i_ j_ x.Mg)/\w'.cell? ⟨w.heap.size+1,7,n_⟩=o_ (i_ j_ x.on)/\w'.cell? ⟨w.heap.size+1,8,n_⟩=o_ (t_ x.held)/\w'.cell? ⟨w.heap.size+1,9,n_⟩=o_ (t_ x.got)/\w'.cell? ⟨w.heap.size+1,10,n_⟩=o_ (i_ j_ x.code)/\w'.cell? ⟨w.heap.size+1,11,n_⟩=o_ (i_ j_ x.RU))/\da (fe w w' w.heap.size (w.heap.size+1) b m Me (aX x) 125 104)/\da (eL w' x)
def iU {w w':w_}{b:Nat}{m:df}{Me:Int}{x:ao}(h:fe w w' w.heap.size (w.heap.size+1) b m Me (aX x) 125 104)(hf:eL w' x):vY w b m Me x w':=
 ⟨⟨h.cells.1,h.cells.2,λty=>h.mp.len underlying102 ty,bo h.bx⟩,h,hf⟩
def Bp (Me:Int)(b:Nat)(m:df)(x:ao)(w:w_)(h:cF w b m)(hw:(Lit.int j_ x.id).wf=true)(hm:m.length<=1048576)(hf:eL w x):
  k_ J3 142 #[a_ #[i_ j_ Me,.map (o_ b)],a_ (aX x)] w λe w'=>dD w b m (iI Me m x.id (cH x.toaD)) x.id (aX x) 125 e w':=by
 have HF:da (fe w ((w.alloc (c_ #[i_ j_ Me,.map (o_ b)] 104)).alloc (c_ (aX x) 125)) w.heap.size (w.heap.size+1) b m Me (aX x) 125 104):=fe.start w h Me _ _ _;have HW:da ((Lit.int j_ x.id).wf=true/\¬w.heap.size+1=b/\m.length<=1048576):=⟨hw,ZdL,hm⟩
 have HI:da (eL ((w.alloc (c_ #[i_ j_ Me,.map (o_ b)] 104)).alloc (c_ (aX x) 125)) x):=hf.below ((((Kp _ w).alloc (Ki _) _)).alloc zy _);have hmn:=ob;have hmr:=uB;obtain⟨s0,s1⟩:=HF.I.cells;obtain⟨c0,c1,c2,c3,c4,c5,c6,c7,c8,c9,qF,pe⟩:=bo HF.I.bx;clear h hw hf hm;unfold aX at*
 go_enter func142,ntmps142
 go_wp2_with fail;clear s0 s1 c0 c1 c2 c3 c4 c5 c6 c7 c8 c9 qF pe;obtain⟨vA,hA⟩:∃v,(cz m x.id).isSome=v:=⟨_,rfl⟩
 obtain⟨vB,F6⟩:∃v,decide (Me<=(m.length:Int))=v:=⟨_,rfl⟩
 obtain⟨vC,hC⟩:∃v,cv x.id 1 1000=v:=⟨_,rfl⟩
 obtain⟨vD,hD⟩:∃v,cH x.toaD=v:=⟨_,rfl⟩
 have HL:da (iI Me m x.id (cH x.toaD)=(!vA&& !vB&&vC&&vD)/\(vA=false->cz m x.id=n_)):=⟨pi hA F6 hC hD,λe=>PX.1 (PY.1 (hA.trans e))⟩
 have HA:da (Ending.returned (b_ (cz m x.id).isSome)=r_ (b_ vA)):=al hA;have HC:da (Ending.returned (b_ (cv x.id 1 1000))=r_ (b_ vC)):=al hC;have HD:da (Ending.returned (b_ (cH x.toaD))=r_ (b_ vD)):=al hD;clear hA hC hD;have u9:∀w0,vY w b m Me x w0->k_ J3 219 #[a_ (aX x)] w0 λe w'=>e=r_ (i_ j_ x.id)/\vY w b m Me x w':=λw0 h0=>(iK x w0).mono λe w2 h=>⟨h.1,iU (h0.2.1.I.below h.2) (h0.2.2.I.below h.2)⟩
 have f9:∀w0,vY w b m Me x w0->k_ J3 173 #[a_ #[i_ j_ Me,.map (o_ b)],i_ j_ x.id] w0 λe w'=>e=r_ (b_ vA)/\vY w b m Me x w':=λw0 h0=>(BP Me b m x.id w0 h0.2.1.I.mp HW.I.1).mono λe w2 h=>⟨h.1.trans HA.I,iU (h0.2.1.I.below h.2) (h0.2.2.I.below h.2)⟩
 have p5:∀w0,vY w b m Me x w0->k_ J3 174 #[i_ j_ x.id] w0 λe w'=>e=r_ (b_ vC)/\vY w b m Me x w':=λw0 h0=>(eW x.id w0).mono λe w2 h=>⟨h.1.trans HC.I,h.2▸h0⟩
 have abz:∀w0,vY w b m Me x w0->k_ J3 220 #[a_ (aX x)] w0 λe w'=>e=r_ (b_ vD)/\vY w b m Me x w':=λw0 h0=>(wo x w0 h0.2.2.I).mono λe w2 h=>⟨h.1.trans HD.I,iU (h0.2.1.I.below h.2) (h0.2.2.I.below h.2)⟩
 unfold aX at u9 abz;have anY:∀w0,fe w w0 w.heap.size (w.heap.size+1) b m Me (aX x) 125 104->eL w0 x->vY w b m Me x w0:=λ_ h1 h2=>iU h1 h2
 have an0:=underlying102;refine aT (vY w b m Me x) ZbG (anY _ HF.I.drew (HI.I.below (Kp _ _).drew)) ?_
 exact ab
def Ho (w:w_)(Me:Int)(dg:List ao)(k:Nat)(wr:w_):Prop:=
 ∃l:List (ao×Nat),l.map (·.1)=dg.take k/\eS aX (λx:ao=>x.id) 125 104 w wr Me l/\aw (λx:ao=>x.id) (λx:ao=>cH x.toaD) 0 (dg.take k)=true/\(k:Int)<=max Me 0
def tw (a:Option d_)(dg:List ao)(cap:Nat)(Me:Int)(w:w_)(hl:dg.length<=1048576)(h:bg.bU w a dg)(hf:∀x∈dg,eL w x)(hw:∀x∈dg,(Lit.int j_ x.id).wf=true):
  k_ J3 98 #[s_ a dg.length cap,i_ j_ Me] w λe w'=>jN aX (λx:ao=>x.id) 125 w Me (aw (λx:ao=>x.id) (λx:ao=>cH x.toaD) 0 dg&&decide ((dg.length:Int)<=max Me 0)) dg e w':=by
 have hmk:=P4 (P:=J3) 102;have hmn:=ob;have H0:da (eS aX (λx:ao=>x.id) 125 104 w (((w.alloc (c_ #[i_ j_ 0,.map n_] 104)).alloc (.map #[] 0)).alloc (c_ #[i_ j_ Me,.map (o_ (w.heap.size+1))] 104)) Me []):=eS.start 104 w Me;have HL:da (bg.bU w a dg/\(∀x∈dg,eL w x)/\∀x∈dg,(Lit.int j_ x.id).wf=true):=⟨h,hf,hw⟩
 clear h hf hw;generalize hTB:(aw (λx:ao=>x.id) (λx:ao=>cH x.toaD) 0 dg&&decide ((dg.length:Int)<=max Me 0))=anL;have HTB:da (_=anL):=hTB;clear hTB
 go_enter func98,ntmps98
 go_wp2_with fail;have alN:=@cn;have anw:=@iK;have anz:=@Bp;have bA:=@bo;have anG:∀(x:ao)(W:w_)(g:Nat),W.heap[g]? =o_ (c_ (aX x) 125)->da (W.heap[g]? =o_ (c_ (aX x) 125)):=λ_ _ _ h=>h
 have anQ:=results98
 go_loopw[7,15] (λlast i wr=>∃k:Nat,k<=dg.length/\i=i_ j_ k/\last=i_ j_ (bW (·.id) 0 (dg.take k))/\da (Ho w Me dg k wr)) (λ_ i _=>dg.length-(intOf i).toNat)
 case atStart=>exact⟨0,Ky _,rfl,rfl,⟨[],zy,H0.I,rfl,ZbI⟩⟩
 case round=>
  exact aa
def qq (w:w_)(b:Nat)(m:df)(Me:Int)(x:au)(w':w_):Prop:=(w'.cell? ⟨w.heap.size,0,n_⟩=o_ (i_ j_ Me)/\w'.cell? ⟨w.heap.size,1,n_⟩=o_ (.map (o_ b))/\(∀ty,(Builtin.len_ #[114] ty #[.map (o_ b)]).run J3 w'=.ok (i_ j_ (m.length:Int)) w')/\w'.cell? ⟨w.heap.size+1,0,n_⟩=o_ (i_ j_ x.id)/\w'.cell? ⟨w.heap.size+1,1,n_⟩=o_ (i_ j_ x.max)/\w'.cell? ⟨w.heap.size+1,2,n_⟩=o_ (s_ x.ak x.Ma.length x.aq))/\da (fe w w' w.heap.size (w.heap.size+1) b m Me (bQ x) 137 116)/\da (fM w' x)
def gB {w w':w_}{b:Nat}{m:df}{Me:Int}{x:au}(h:fe w w' w.heap.size (w.heap.size+1) b m Me (bQ x) 137 116)(hf:fM w' x):qq w b m Me x w':=
 ⟨⟨h.cells.1,h.cells.2,λty=>h.mp.len underlying114 ty,ia h.bx⟩,h,hf⟩
def pV (Me:Int)(b:Nat)(m:df)(x:au)(w:w_)(h:cF w b m)(hw:(Lit.int j_ x.id).wf=true)(hm:m.length<=1048576)(hf:fM w x):
  k_ J3 146 #[a_ #[i_ j_ Me,.map (o_ b)],a_ (bQ x)] w λe w'=>dD w b m (iI Me m x.id (ct x.toci)) x.id (bQ x) 137 e w':=by
 have HF:da (fe w ((w.alloc (c_ #[i_ j_ Me,.map (o_ b)] 116)).alloc (c_ (bQ x) 137)) w.heap.size (w.heap.size+1) b m Me (bQ x) 137 116):=fe.start w h Me _ _ _;have HW:da ((Lit.int j_ x.id).wf=true/\¬w.heap.size+1=b/\m.length<=1048576):=⟨hw,ZdL,hm⟩
 have HI:da (fM ((w.alloc (c_ #[i_ j_ Me,.map (o_ b)] 116)).alloc (c_ (bQ x) 137)) x):=hf.below ((((Kp _ w).alloc (Ki _) _)).alloc zy _);have hmn:=mc;have hmr:=se;obtain⟨s0,s1⟩:=HF.I.cells;obtain⟨c0,c1,c2⟩:=ia HF.I.bx;clear h hw hf hm;unfold bQ at*
 go_enter func146,ntmps146
 go_wp2_with fail;clear s0 s1 c0 c1 c2;obtain⟨vA,hA⟩:∃v,(cz m x.id).isSome=v:=⟨_,rfl⟩
 obtain⟨vB,F6⟩:∃v,decide (Me<=(m.length:Int))=v:=⟨_,rfl⟩
 obtain⟨vC,hC⟩:∃v,cv x.id 1 1000=v:=⟨_,rfl⟩
 obtain⟨vD,hD⟩:∃v,ct x.toci=v:=⟨_,rfl⟩
 have HL:da (iI Me m x.id (ct x.toci)=(!vA&& !vB&&vC&&vD)/\(vA=false->cz m x.id=n_)):=⟨pi hA F6 hC hD,λe=>PX.1 (PY.1 (hA.trans e))⟩
 have HA:da (Ending.returned (b_ (cz m x.id).isSome)=r_ (b_ vA)):=al hA;have HC:da (Ending.returned (b_ (cv x.id 1 1000))=r_ (b_ vC)):=al hC;have HD:da (Ending.returned (b_ (ct x.toci))=r_ (b_ vD)):=al hD;clear hA hC hD;have u9:∀w0,qq w b m Me x w0->k_ J3 239 #[a_ (bQ x)] w0 λe w'=>e=r_ (i_ j_ x.id)/\qq w b m Me x w':=λw0 h0=>(gP x w0).mono λe w2 h=>⟨h.1,gB (h0.2.1.I.below h.2) (h0.2.2.I.below h.2)⟩
 have f9:∀w0,qq w b m Me x w0->k_ J3 178 #[a_ #[i_ j_ Me,.map (o_ b)],i_ j_ x.id] w0 λe w'=>e=r_ (b_ vA)/\qq w b m Me x w':=λw0 h0=>(mE Me b m x.id w0 h0.2.1.I.mp HW.I.1).mono λe w2 h=>⟨h.1.trans HA.I,gB (h0.2.1.I.below h.2) (h0.2.2.I.below h.2)⟩
 have p5:∀w0,qq w b m Me x w0->k_ J3 174 #[i_ j_ x.id] w0 λe w'=>e=r_ (b_ vC)/\qq w b m Me x w':=λw0 h0=>(eW x.id w0).mono λe w2 h=>⟨h.1.trans HC.I,h.2▸h0⟩
 have abz:∀w0,qq w b m Me x w0->k_ J3 240 #[a_ (bQ x)] w0 λe w'=>e=r_ (b_ vD)/\qq w b m Me x w':=λw0 h0=>(Sr x w0 h0.2.2.I).mono λe w2 h=>⟨h.1.trans HD.I,gB (h0.2.1.I.below h.2) (h0.2.2.I.below h.2)⟩
 unfold bQ at u9 abz;have anY:∀w0,fe w w0 w.heap.size (w.heap.size+1) b m Me (bQ x) 137 116->fM w0 x->qq w b m Me x w0:=λ_ h1 h2=>gB h1 h2
 have an0:=underlying114;refine aT (qq w b m Me x) ZbG (anY _ HF.I.drew (HI.I.below (Kp _ _).drew)) ?_
 exact ab
def Dj (w:w_)(Me:Int)(dg:List au)(k:Nat)(wr:w_):Prop:=
 ∃l:List (au×Nat),l.map (·.1)=dg.take k/\eS bQ (λx:au=>x.id) 137 116 w wr Me l/\aw (λx:au=>x.id) (λx:au=>ct x.toci) 0 (dg.take k)=true/\(k:Int)<=max Me 0
def rH (a:Option d_)(dg:List au)(cap:Nat)(Me:Int)(w:w_)(hl:dg.length<=1048576)(h:bm.bU w a dg)(hf:∀x∈dg,fM w x)(hw:∀x∈dg,(Lit.int j_ x.id).wf=true):
  k_ J3 102 #[s_ a dg.length cap,i_ j_ Me] w λe w'=>jN bQ (λx:au=>x.id) 137 w Me (aw (λx:au=>x.id) (λx:au=>ct x.toci) 0 dg&&decide ((dg.length:Int)<=max Me 0)) dg e w':=by
 have hmk:=P4 (P:=J3) 114;have hmn:=mc;have H0:da (eS bQ (λx:au=>x.id) 137 116 w (((w.alloc (c_ #[i_ j_ 0,.map n_] 116)).alloc (.map #[] 0)).alloc (c_ #[i_ j_ Me,.map (o_ (w.heap.size+1))] 116)) Me []):=eS.start 116 w Me;have HL:da (bm.bU w a dg/\(∀x∈dg,fM w x)/\∀x∈dg,(Lit.int j_ x.id).wf=true):=⟨h,hf,hw⟩
 clear h hf hw;generalize hTB:(aw (λx:au=>x.id) (λx:au=>ct x.toci) 0 dg&&decide ((dg.length:Int)<=max Me 0))=anL;have HTB:da (_=anL):=hTB;clear hTB
 go_enter func102,ntmps102
 go_wp2_with fail;have alN:=@iA;have anw:=@gP;have anz:=@pV;have bA:=@ia;have anG:∀(x:au)(W:w_)(g:Nat),W.heap[g]? =o_ (c_ (bQ x) 137)->da (W.heap[g]? =o_ (c_ (bQ x) 137)):=λ_ _ _ h=>h
 have anQ:=results102
 go_loopw[7,15] (λlast i wr=>∃k:Nat,k<=dg.length/\i=i_ j_ k/\last=i_ j_ (bW (·.id) 0 (dg.take k))/\da (Dj w Me dg k wr)) (λ_ i _=>dg.length-(intOf i).toNat)
 case atStart=>exact⟨0,Ky _,rfl,rfl,⟨[],zy,H0.I,rfl,ZbI⟩⟩
 case round=>
  exact aa
def yk (w:w_)(b:Nat)(m:df)(Me:Int)(x:bD)(w':w_):Prop:=(w'.cell? ⟨w.heap.size,0,n_⟩=o_ (i_ j_ Me)/\w'.cell? ⟨w.heap.size,1,n_⟩=o_ (.map (o_ b))/\(∀ty,(Builtin.len_ #[105] ty #[.map (o_ b)]).run J3 w'=.ok (i_ j_ (m.length:Int)) w')/\w'.cell? ⟨w.heap.size+1,0,n_⟩=o_ (i_ j_ x.id)/\w'.cell? ⟨w.heap.size+1,1,n_⟩=o_ (i_ j_ x.n)/\w'.cell? ⟨w.heap.size+1,2,n_⟩=o_ (i_ j_ x.max))/\da (fe w w' w.heap.size (w.heap.size+1) b m Me (eH x) 128 107)/\da (kU w' x)
def jz {w w':w_}{b:Nat}{m:df}{Me:Int}{x:bD}(h:fe w w' w.heap.size (w.heap.size+1) b m Me (eH x) 128 107)(hf:kU w' x):yk w b m Me x w':=
 ⟨⟨h.cells.1,h.cells.2,λty=>h.mp.len underlying105 ty,gm h.bx⟩,h,hf⟩
def tU (Me:Int)(b:Nat)(m:df)(x:bD)(w:w_)(h:cF w b m)(hw:(Lit.int j_ x.id).wf=true)(hm:m.length<=1048576)(hf:kU w x):
  k_ J3 143 #[a_ #[i_ j_ Me,.map (o_ b)],a_ (eH x)] w λe w'=>dD w b m (iI Me m x.id (gw x)) x.id (eH x) 128 e w':=by
 have HF:da (fe w ((w.alloc (c_ #[i_ j_ Me,.map (o_ b)] 107)).alloc (c_ (eH x) 128)) w.heap.size (w.heap.size+1) b m Me (eH x) 128 107):=fe.start w h Me _ _ _;have HW:da ((Lit.int j_ x.id).wf=true/\¬w.heap.size+1=b/\m.length<=1048576):=⟨hw,ZdL,hm⟩
 have HI:da (kU ((w.alloc (c_ #[i_ j_ Me,.map (o_ b)] 107)).alloc (c_ (eH x) 128)) x):=hf.below ((((Kp _ w).alloc (Ki _) _)).alloc zy _);have hmn:=pb;have hmr:=wW;obtain⟨s0,s1⟩:=HF.I.cells;obtain⟨c0,c1,c2⟩:=gm HF.I.bx;clear h hw hf hm;unfold eH at*
 go_enter func143,ntmps143
 go_wp2_with fail;clear s0 s1 c0 c1 c2;obtain⟨vA,hA⟩:∃v,(cz m x.id).isSome=v:=⟨_,rfl⟩
 obtain⟨vB,F6⟩:∃v,decide (Me<=(m.length:Int))=v:=⟨_,rfl⟩
 obtain⟨vC,hC⟩:∃v,cv x.id 1 1000=v:=⟨_,rfl⟩
 obtain⟨vD,hD⟩:∃v,gw x=v:=⟨_,rfl⟩
 have HL:da (iI Me m x.id (gw x)=(!vA&& !vB&&vC&&vD)/\(vA=false->cz m x.id=n_)):=⟨pi hA F6 hC hD,λe=>PX.1 (PY.1 (hA.trans e))⟩
 have HA:da (Ending.returned (b_ (cz m x.id).isSome)=r_ (b_ vA)):=al hA;have HC:da (Ending.returned (b_ (cv x.id 1 1000))=r_ (b_ vC)):=al hC;have HD:da (Ending.returned (b_ (gw x))=r_ (b_ vD)):=al hD;clear hA hC hD;have u9:∀w0,yk w b m Me x w0->k_ J3 230 #[a_ (eH x)] w0 λe w'=>e=r_ (i_ j_ x.id)/\yk w b m Me x w':=λw0 h0=>(jv x w0).mono λe w2 h=>⟨h.1,jz (h0.2.1.I.below h.2) (h0.2.2.I.below h.2)⟩
 have f9:∀w0,yk w b m Me x w0->k_ J3 175 #[a_ #[i_ j_ Me,.map (o_ b)],i_ j_ x.id] w0 λe w'=>e=r_ (b_ vA)/\yk w b m Me x w':=λw0 h0=>(tZ Me b m x.id w0 h0.2.1.I.mp HW.I.1).mono λe w2 h=>⟨h.1.trans HA.I,jz (h0.2.1.I.below h.2) (h0.2.2.I.below h.2)⟩
 have p5:∀w0,yk w b m Me x w0->k_ J3 174 #[i_ j_ x.id] w0 λe w'=>e=r_ (b_ vC)/\yk w b m Me x w':=λw0 h0=>(eW x.id w0).mono λe w2 h=>⟨h.1.trans HC.I,h.2▸h0⟩
 have abz:∀w0,yk w b m Me x w0->k_ J3 231 #[a_ (eH x)] w0 λe w'=>e=r_ (b_ vD)/\yk w b m Me x w':=λw0 h0=>(ye x w0 h0.2.2.I).mono λe w2 h=>⟨h.1.trans HD.I,jz (h0.2.1.I.below h.2) (h0.2.2.I.below h.2)⟩
 unfold eH at u9 abz;have anY:∀w0,fe w w0 w.heap.size (w.heap.size+1) b m Me (eH x) 128 107->kU w0 x->yk w b m Me x w0:=λ_ h1 h2=>jz h1 h2
 have an0:=underlying105;refine aT (yk w b m Me x) ZbG (anY _ HF.I.drew (HI.I.below (Kp _ _).drew)) ?_
 exact ab
def IW (w:w_)(Me:Int)(dg:List bD)(k:Nat)(wr:w_):Prop:=
 ∃l:List (bD×Nat),l.map (·.1)=dg.take k/\eS eH (λx:bD=>x.id) 128 107 w wr Me l/\aw (λx:bD=>x.id) (λx:bD=>gw x) 0 (dg.take k)=true/\(k:Int)<=max Me 0
def vV (a:Option d_)(dg:List bD)(cap:Nat)(Me:Int)(w:w_)(hl:dg.length<=1048576)(h:dm.bU w a dg)(hf:∀x∈dg,kU w x)(hw:∀x∈dg,(Lit.int j_ x.id).wf=true):
  k_ J3 99 #[s_ a dg.length cap,i_ j_ Me] w λe w'=>jN eH (λx:bD=>x.id) 128 w Me (aw (λx:bD=>x.id) (λx:bD=>gw x) 0 dg&&decide ((dg.length:Int)<=max Me 0)) dg e w':=by
 have hmk:=P4 (P:=J3) 105;have hmn:=pb;have H0:da (eS eH (λx:bD=>x.id) 128 107 w (((w.alloc (c_ #[i_ j_ 0,.map n_] 107)).alloc (.map #[] 0)).alloc (c_ #[i_ j_ Me,.map (o_ (w.heap.size+1))] 107)) Me []):=eS.start 107 w Me;have HL:da (dm.bU w a dg/\(∀x∈dg,kU w x)/\∀x∈dg,(Lit.int j_ x.id).wf=true):=⟨h,hf,hw⟩
 clear h hf hw;generalize hTB:(aw (λx:bD=>x.id) (λx:bD=>gw x) 0 dg&&decide ((dg.length:Int)<=max Me 0))=anL;have HTB:da (_=anL):=hTB;clear hTB
 go_enter func99,ntmps99
 go_wp2_with fail;have alN:=@lQ;have anw:=@jv;have anz:=@tU;have bA:=@gm;have anG:∀(x:bD)(W:w_)(g:Nat),W.heap[g]? =o_ (c_ (eH x) 128)->da (W.heap[g]? =o_ (c_ (eH x) 128)):=λ_ _ _ h=>h
 have anQ:=results99
 go_loopw[7,15] (λlast i wr=>∃k:Nat,k<=dg.length/\i=i_ j_ k/\last=i_ j_ (bW (·.id) 0 (dg.take k))/\da (IW w Me dg k wr)) (λ_ i _=>dg.length-(intOf i).toNat)
 case atStart=>exact⟨0,Ky _,rfl,rfl,⟨[],zy,H0.I,rfl,ZbI⟩⟩
 case round=>
  exact aa
end
section
open Go.RowKit Go.Maps Go.Sort Go.Shelf
def wq (mb:Option Nat)(W:w_):k_ J3 123 #[.map mb] W λe w'=>e=r_ (.func (.func 161) #[] #[p_ (o_ ⟨W.heap.size,0,n_⟩)])/\w'=W.alloc (c_ #[.map mb] 117):=
 (LO (n:=5)).1 (RC Tryz.keysPort Fence.wide 5 trivial rfl mb W)
def pY (Bm b:Nat)(m:df)(W:w_)(hBm:Bm<W.heap.size)(hc:W.cell? ⟨Bm,0,n_⟩=o_ (.map (o_ b)))(h:cF W b m)(hm:m.length<=1048576):
  k_ J3 39 #[.func (.func 161) #[] #[p_ (o_ ⟨Bm,0,n_⟩)]] W λe w'=>∃v:v_,e=r_ v/\w'.ownsRow W.heap.size 2 1 v m.length (m.map λp=>i_ j_ p.1)/\B_ W.heap.size W w':=by
 have hsz:Maps.size (gA m)=m.length:=size_map m;have hseq:SeqGives Fence.wide 2 J3 161 #[p_ (o_ ⟨Bm,0,n_⟩)] encZ (λss=>ss.Perm (intKeys (gA m))) (Maps.size (gA m)) W:=
  RD (ρ:=Tryz.keysPort_ren) {Tryz.keysPort with} Fence.wide _ trivial rfl zw Bm b m.length (gA m) W hBm hc h.1
 have cS:=RE Tryz.sortedA Fence.wide 5 trivial trivial trivial trivial rfl zw (Tryz.sortsA _) (LP func54 ZbG rfl) 161 #[p_ (o_ ⟨Bm,0,n_⟩)] trivial (LP func161 ZbG rfl) _ _ Zcs Zdo _ hseq
 exact h_
def BK:(Tryz.prog.info? 89).map (λi=>(i.zero,i.size,i.bytes))=o_ (o_ (p_ n_),1,8):=ZbG
def Bx (Me:Int)(b:Nat)(m:df)(w:w_)(h:cF w b m)(hm:m.length<=1048576)(hwf:∀p∈m,(Lit.int j_ p.1).wf=true):
  k_ J3 82 #[a_ #[i_ j_ Me,.map (o_ b)]] w λe w'=>∃a cap,e=r_ (s_ a m.length cap)/\w'.ownsRow w.heap.size 89 1 (s_ a m.length cap) m.length (m.map λp=>dt p.2)/\B_ w.heap.size w w':=by
 obtain⟨i0,hi,e0⟩:=Kw.1 BK;simp only[Kx]at e0;have HI:da (_/\_/\_/\_):=⟨hi,e0⟩
 have HM:da (cF w b m/\∀p∈m,(Lit.int j_ p.1).wf=true):=⟨h,hwf⟩
 have hbl:b<w.heap.size:=h.lt;clear hi e0 h hwf
 go_enter func82,ntmps82
 go_wp2_with(go_at_call 123;refine(wq _ _).mono ?_;rintro e w' ⟨rfl,rfl⟩);refine(pY (w.heap.size+1) b m _ zy zy (HM.I.1.below (((Kp _ w).alloc (Ki _) _).alloc zy _)) hm).mono ?_;rintro e w2 ⟨v,rfl,hown,hb2⟩;have cy:da (B_ w.heap.size w w2):=(((Kp _ w).alloc (Ki _) _).alloc zy _).trans (hb2.mono ZbI);have HS:da (w2.heap[w.heap.size]? =o_ (c_ #[i_ j_ Me,.map (o_ b)] 119)):=(hb2.block _ ZbI).trans ((PU zy).trans (Kj _ _));obtain⟨a,cap,hv,hrow⟩:=cr hown;have HR:da (Row w2 a (m.map λp=>i_ j_ p.1)):=hrow;rw[hv];clear hv hown hrow hb2 v;go_wp2_with fail;have Zc:=underlying117;have YC:=underlying174;have anF:=sK
 go_loopw[3,11] (λl i wr=>∃k:Nat,k<=m.length/\i=i_ j_ k/\∃a' cap',l=s_ a' k cap'/\da (anZ 89 w2 m k a' cap' wr)) (λ_ i _=>m.length-(intOf i).toNat)
 case atStart=>exact ZbS
 case round=>
  exact ba
def vL (mb:Option Nat)(W:w_):k_ J3 121 #[.map mb] W λe w'=>e=r_ (.func (.func 159) #[] #[p_ (o_ ⟨W.heap.size,0,n_⟩)])/\w'=W.alloc (c_ #[.map mb] 111):=
 (LO (n:=5)).1 (RC Tryz.keysBoard Fence.wide 5 trivial rfl mb W)
def pB (Bm b:Nat)(m:df)(W:w_)(hBm:Bm<W.heap.size)(hc:W.cell? ⟨Bm,0,n_⟩=o_ (.map (o_ b)))(h:cF W b m)(hm:m.length<=1048576):
  k_ J3 39 #[.func (.func 159) #[] #[p_ (o_ ⟨Bm,0,n_⟩)]] W λe w'=>∃v:v_,e=r_ v/\w'.ownsRow W.heap.size 2 1 v m.length (m.map λp=>i_ j_ p.1)/\B_ W.heap.size W w':=by
 have hsz:Maps.size (gA m)=m.length:=size_map m;have hseq:SeqGives Fence.wide 2 J3 159 #[p_ (o_ ⟨Bm,0,n_⟩)] encZ (λss=>ss.Perm (intKeys (gA m))) (Maps.size (gA m)) W:=
  RD (ρ:=Tryz.keysBoard_ren) {Tryz.keysBoard with} Fence.wide _ trivial rfl zw Bm b m.length (gA m) W hBm hc h.1
 have cS:=RE Tryz.sortedA Fence.wide 5 trivial trivial trivial trivial rfl zw (Tryz.sortsA _) (LP func54 ZbG rfl) 159 #[p_ (o_ ⟨Bm,0,n_⟩)] trivial (LP func159 ZbG rfl) _ _ Zcs Zdo _ hseq
 exact h_
def zM:(Tryz.prog.info? 170).map (λi=>(i.zero,i.size,i.bytes))=o_ (o_ (p_ n_),1,8):=ZbG
def yB (Me:Int)(b:Nat)(m:df)(w:w_)(h:cF w b m)(hm:m.length<=1048576)(hwf:∀p∈m,(Lit.int j_ p.1).wf=true):
  k_ J3 80 #[a_ #[i_ j_ Me,.map (o_ b)]] w λe w'=>∃a cap,e=r_ (s_ a m.length cap)/\w'.ownsRow w.heap.size 170 1 (s_ a m.length cap) m.length (m.map λp=>dt p.2)/\B_ w.heap.size w w':=by
 obtain⟨i0,hi,e0⟩:=Kw.1 zM;simp only[Kx]at e0;have HI:da (_/\_/\_/\_):=⟨hi,e0⟩
 have HM:da (cF w b m/\∀p∈m,(Lit.int j_ p.1).wf=true):=⟨h,hwf⟩
 have hbl:b<w.heap.size:=h.lt;clear hi e0 h hwf
 go_enter func80,ntmps80
 go_wp2_with(go_at_call 121;refine(vL _ _).mono ?_;rintro e w' ⟨rfl,rfl⟩);refine(pB (w.heap.size+1) b m _ zy zy (HM.I.1.below (((Kp _ w).alloc (Ki _) _).alloc zy _)) hm).mono ?_;rintro e w2 ⟨v,rfl,hown,hb2⟩;have cy:da (B_ w.heap.size w w2):=(((Kp _ w).alloc (Ki _) _).alloc zy _).trans (hb2.mono ZbI);have HS:da (w2.heap[w.heap.size]? =o_ (c_ #[i_ j_ Me,.map (o_ b)] 113)):=(hb2.block _ ZbI).trans ((PU zy).trans (Kj _ _));obtain⟨a,cap,hv,hrow⟩:=cr hown;have HR:da (Row w2 a (m.map λp=>i_ j_ p.1)):=hrow;rw[hv];clear hv hown hrow hb2 v;go_wp2_with fail;have Zc:=underlying111;have YC:=underlying168;have anF:=qW
 go_loopw[3,11] (λl i wr=>∃k:Nat,k<=m.length/\i=i_ j_ k/\∃a' cap',l=s_ a' k cap'/\da (anZ 170 w2 m k a' cap' wr)) (λ_ i _=>m.length-(intOf i).toNat)
 case atStart=>exact ZbS
 case round=>
  exact ba
def vq (mb:Option Nat)(W:w_):k_ J3 120 #[.map mb] W λe w'=>e=r_ (.func (.func 158) #[] #[p_ (o_ ⟨W.heap.size,0,n_⟩)])/\w'=W.alloc (c_ #[.map mb] 108):=
 (LO (n:=5)).1 (RC Tryz.keysEvent Fence.wide 5 trivial rfl mb W)
def pD (Bm b:Nat)(m:df)(W:w_)(hBm:Bm<W.heap.size)(hc:W.cell? ⟨Bm,0,n_⟩=o_ (.map (o_ b)))(h:cF W b m)(hm:m.length<=1048576):
  k_ J3 39 #[.func (.func 158) #[] #[p_ (o_ ⟨Bm,0,n_⟩)]] W λe w'=>∃v:v_,e=r_ v/\w'.ownsRow W.heap.size 2 1 v m.length (m.map λp=>i_ j_ p.1)/\B_ W.heap.size W w':=by
 have hsz:Maps.size (gA m)=m.length:=size_map m;have hseq:SeqGives Fence.wide 2 J3 158 #[p_ (o_ ⟨Bm,0,n_⟩)] encZ (λss=>ss.Perm (intKeys (gA m))) (Maps.size (gA m)) W:=
  RD (ρ:=Tryz.keysEvent_ren) {Tryz.keysEvent with} Fence.wide _ trivial rfl zw Bm b m.length (gA m) W hBm hc h.1
 have cS:=RE Tryz.sortedA Fence.wide 5 trivial trivial trivial trivial rfl zw (Tryz.sortsA _) (LP func54 ZbG rfl) 158 #[p_ (o_ ⟨Bm,0,n_⟩)] trivial (LP func158 ZbG rfl) _ _ Zcs Zdo _ hseq
 exact h_
def zk:(Tryz.prog.info? 167).map (λi=>(i.zero,i.size,i.bytes))=o_ (o_ (p_ n_),1,8):=ZbG
def yh (Me:Int)(b:Nat)(m:df)(w:w_)(h:cF w b m)(hm:m.length<=1048576)(hwf:∀p∈m,(Lit.int j_ p.1).wf=true):
  k_ J3 79 #[a_ #[i_ j_ Me,.map (o_ b)]] w λe w'=>∃a cap,e=r_ (s_ a m.length cap)/\w'.ownsRow w.heap.size 167 1 (s_ a m.length cap) m.length (m.map λp=>dt p.2)/\B_ w.heap.size w w':=by
 obtain⟨i0,hi,e0⟩:=Kw.1 zk;simp only[Kx]at e0;have HI:da (_/\_/\_/\_):=⟨hi,e0⟩
 have HM:da (cF w b m/\∀p∈m,(Lit.int j_ p.1).wf=true):=⟨h,hwf⟩
 have hbl:b<w.heap.size:=h.lt;clear hi e0 h hwf
 go_enter func79,ntmps79
 go_wp2_with(go_at_call 120;refine(vq _ _).mono ?_;rintro e w' ⟨rfl,rfl⟩);refine(pD (w.heap.size+1) b m _ zy zy (HM.I.1.below (((Kp _ w).alloc (Ki _) _).alloc zy _)) hm).mono ?_;rintro e w2 ⟨v,rfl,hown,hb2⟩;have cy:da (B_ w.heap.size w w2):=(((Kp _ w).alloc (Ki _) _).alloc zy _).trans (hb2.mono ZbI);have HS:da (w2.heap[w.heap.size]? =o_ (c_ #[i_ j_ Me,.map (o_ b)] 110)):=(hb2.block _ ZbI).trans ((PU zy).trans (Kj _ _));obtain⟨a,cap,hv,hrow⟩:=cr hown;have HR:da (Row w2 a (m.map λp=>i_ j_ p.1)):=hrow;rw[hv];clear hv hown hrow hb2 v;go_wp2_with fail;have Zc:=underlying108;have YC:=underlying165;have anF:=rE
 go_loopw[3,11] (λl i wr=>∃k:Nat,k<=m.length/\i=i_ j_ k/\∃a' cap',l=s_ a' k cap'/\da (anZ 167 w2 m k a' cap' wr)) (λ_ i _=>m.length-(intOf i).toNat)
 case atStart=>exact ZbS
 case round=>
  exact ba
end
section
def MX (b:Bool)(w:w_):k_ J3 75 #[b_ b] w λe w'=>e=r_ (t_ (Ij (MJ b)))/\w'=w:=by
 rw[Oq]
 go_enter func75,ntmps75
 cases b
 .go_wp2
  go_ret;exact⟨rfl,rfl⟩
 .go_wp2
  go_ret;exact⟨rfl,rfl⟩
def Nx (a:Option d_)(l:List ByteArray)(cap:Nat)(w:w_)(hl:l.length<=1048576)(hs:∀x∈l,x.size<=1048576)(h:Row w a (bT.flat l)):
  k_ J3 76 #[s_ a l.length cap] w λe w'=>e=r_ (t_ (MI l))/\w'=w:=by
 have H:da (Row w a (bT.flat l)/\∀x∈l,x.size<=1048576):=⟨h,hs⟩
 clear h hs
 go_enter func76,ntmps76
 go_wp2_with fail
 go_loop [3,4] (λt i=>∃k:Nat,k<=l.length/\i=i_ j_ k/\t=t_ (MI (l.take k))) (λ_ i=>l.length-(intOf i).toNat)
 case atStart=>exact⟨0,Ky _,rfl,rfl⟩
 case round=>
  obtain⟨k,hk,rfl,rfl⟩:=hrel;by_cases hlt:k<l.length
  .have i0:(0:Int)<=(k:Int):=zw
   have i1:(k:Int)<(l.length:Int):=zw
   obtain⟨x,hx⟩:∃x,l[k]? =o_ x:=⟨_,Kz hlt⟩
   have HX:da (MI (l.take k)++⟨#[59]⟩++x=MI (l.take (k+1))):=by show _=_;rw[MI,MI,OX hx,NS,ByteArray.append_assoc]
   obtain⟨g,rfl,c0⟩:=zl H.I.1 hx;have hz:(MI (l.take k)).size<=1048577*k:=by
    have h1:=Nf (f:=NS) (l:=l.take k) (m:=1048577) λy hy=>by have:=H.I.2 y (RK hy);rw[Ny];omega
    rw[Lk,Nat.min_eq_left hk]at h1;exact h1
   have hxs:=H.I.2 x (KA hx);have s1:¬9223372036854775807<(MI (l.take k)).size+1:=zw
   have s2:¬9223372036854775807<(MI (l.take k)).size+1+x.size:=zw
   clear hx hz hxs;go_wp2
   go_round
   case rel=>exact⟨k+1,zw,by go_num,congrArg Value.string HX.I⟩
   case measure=>exact Zcc
  .have i1:¬(k:Int)<(l.length:Int):=zw
   have ek:k=l.length:=zw
   subst ek;rw[LQ];go_wp2;go_ret;exact⟨rfl,rfl⟩
def NQ (l:List dN):ByteArray:=M0 l.length (Cd l) (Cg l) (Ea l) (Ce l)
def NP (a:Option d_)(l:List dN)(cap:Nat)(w:w_)(h0:0<l.length)(hl:l.length<=1048576)(hs:∀o∈l,o.2.2.2.size<=1048576)(h:Row w a (fk.flat l)):
  k_ J3 74 #[s_ a l.length cap] w λe w'=>e=r_ (t_ (NQ l))/\B_ w.heap.size w w':=by
 obtain⟨g,rfl,hr⟩:=wa h h0;exact No g _ cap _ _ _ _ w hl (xd hs) hr
def N8 (l:List dN):(NQ l).size<=1040:=by
 unfold NQ M0;by_cases h:nq l.length (Cd l) (Cg l) (Ea l) (Ce l)=true
 .rw [if_pos h]
  have h1:=MU h;have h2:=NX _ h1.2.2;omega
 .rw [if_neg h]
  exact Ky _
end
section
open Go.Maps
def MM (b:Bool): -9999999999<=MJ b/\MJ b<=9999999999:=by cases b<;>decide
def Pj (_w:w_)(x:bD):Prop:=(∀n∈[x.id,x.n,x.max],-9999999999<=n/\n<=9999999999)
def OB (_w:w_)(x:aB):Prop:=(∀n∈[x.id,MJ x.up],-9999999999<=n/\n<=9999999999)
def OC (_w:w_)(x:az):Prop:=(∀n∈[x.id,MJ x.shown],-9999999999<=n/\n<=9999999999)/\x.text.size<=1048576
def N6 (w:w_)(x:au):Prop:=(∀n∈[x.id,x.max],-9999999999<=n/\n<=9999999999)/\x.Ma.length<=1048576/\(∀s∈x.Ma,s.size<=1048576)/\Row w x.ak (bT.flat x.Ma)
def O5 (w:w_)(x:aM):Prop:=(∀n∈[x.id,MJ x.I,MJ x.Mf,x.max],-9999999999<=n/\n<=9999999999)/\x.Ma.length<=1048576/\(∀s∈x.Ma,s.size<=1048576)/\Row w x.ak (bT.flat x.Ma)
def O0 (w:w_)(x:ao):Prop:=(∀n∈[x.id,x.RX,x.Md,x.pc,x.left,x.Mg,x.on,x.code,x.RU],-9999999999<=n/\n<=9999999999)/\0<x.prog.length/\x.dX/\Row w x.aY (fk.flat x.prog)
def Nh {s:ByteArray}(h:bI s=true):s.size=0:=by
 have h1:s.toList=[]:=by simpa[bI]using h
 have h2:s.toList.length=s.size:=by rw[PQ];simp
 rw[h1]at h2;exact h2.symm
def M5 {s:ByteArray}(h:bw s=true):s.size<=20:=by
 simp only[bw,J7,decide_eq_true_iff]at h;exact h.1
def OJ {k n m:Int}{s:ByteArray}(h:mQ k n m s=true):n<=1000/\s.size<=20:=by
 unfold mQ at h
 split at h
 .simp only[J7,bz]at h
  have:=Nh h.2
  omega
 split at h
 .simp only[J7,bz]at h
  have:=Nh h.2
  omega
 split at h
 .simp only[J7,bz]at h
  have:=M5 h.2
  omega
 split at h
 .simp only[J7,bz]at h
  have:=M5 h.2
  omega
 split at h
 .simp only[J7,decide_eq_true_iff]at h
  have:=Nh h.2
  omega
 .cases h
def NB {l:List dN}(h:jm l=true):0<l.length/\l.length<=20/\∀o∈l,o.2.1<=1000/\o.2.2.2.size<=20:=by
 have h1:=MU h;refine⟨h1.1,h1.2.1,λo ho=>?_⟩;obtain⟨i,hi,rfl⟩:=LK.1 ho;have h2:=OJ (h1.2.2 i hi);simpa[Cg,Ce,Kz hi]using h2
def has_in {p:aE}(h:aQ p){s i:Int}(hb:hasB p s i=true):1<=i/\i<=1000:=by
 unfold hasB at hb
 split at hb
 .obtain ⟨x,hx,rfl⟩:=Lr.1 (of_decide_eq_true hb)
  exact bz.1 (cK h.aj x hx).1
 split at hb
 .obtain ⟨x,hx,rfl⟩:=Lr.1 (of_decide_eq_true hb)
  exact bz.1 (cK h.L9 x hx).1
 split at hb
 .obtain ⟨x,hx,rfl⟩:=Lr.1 (of_decide_eq_true hb)
  exact bz.1 (cK h.ae x hx).1
 split at hb
 .obtain ⟨x,hx,rfl⟩:=Lr.1 (of_decide_eq_true hb)
  exact bz.1 (cK h.ag x hx).1
 .cases hb
def Ns {l:List ByteArray}{m:Int}(h:dJ l m=true)(hm:m<=5):l.length<=1048576/\∀s∈l,s.size<=1048576:=by
 simp only[dJ,J7,decide_eq_true_iff,PZ]at h;exact⟨zw,λs hs=>by have:=M5 (h.1 s hs);omega⟩
def O2 {p:aE}(h:aQ p)(w:w_){x:bD}(hx:x∈p.aj):Pj w x:=by
 have h1:=cK h.aj x hx;simp only[gw,J7,bz]at h1;intro n hn;exact Zaq
def Oi {p:aE}(h:aQ p)(w:w_){x:aB}(hx:x∈p.L9):OB w x:=by
 have h1:=bz.1 (cK h.L9 x hx).1;have h2:=MM x.up;intro n hn;exact Zaq
def N9 {p:aE}(h:aQ p)(w:w_){x:az}(hx:x∈p.ag):OC w x:=by
 have h1:=cK h.ag x hx;simp only[cU,J7,bz]at h1;have h2:=MM x.shown;have h3:=M5 h1.2.1;refine⟨λn hn=>?_,zw⟩;exact Zaq
def N3 {p:aE}(h:aQ p){w:w_}{x:au}(hx:x.toci∈p.ae)(hr:Row w x.ak (bT.flat x.Ma)):N6 w x:=by
 have h1:=cK h.ae x.toci hx;simp only[ct,J7,bz]at h1;have h3:=Ns h1.2.2 zw;refine⟨λn hn=>?_,h3.1,h3.2,hr⟩;exact Zaq
def OA {p:aE}(h:aQ p){w:w_}{x:aM}(hx:x.todS∈p.ai)(hr:Row w x.ak (bT.flat x.Ma)):O5 w x:=by
 have h1:=cK h.ai x.todS hx;simp only[dj,J7,bz]at h1;have h3:=Ns h1.2.2 zw;have h4:=MM x.I;have h5:=MM x.Mf;refine⟨λn hn=>?_,h3.1,h3.2,hr⟩;exact Zaq
def Oj {x:aD}(h:bO x=true)(hp:jm x.prog=true):0<=x.Md/\x.Md<=7/\0<=x.pc/\x.pc<=20/\0<=x.left/\x.left<=1000/\ -1<=x.Mg/\x.Mg<=2000000000/\(x.Md<3->x.on=0)/\(x.Md=0->x.RU=0):=by
 have hl:=NB hp;unfold bO at h
 split at h
 .simp only[J7,decide_eq_true_iff]at h
  omega
 split at h
 .simp only[J7,decide_eq_true_iff,dU,bz,jJ]at h
  have h5:0<=x.left/\x.left<=1000:=by
   have h6:=h.1.1.1.2
   split at h6
   .simp only[J7,decide_eq_true_iff]at h6
    have h7:(opAt x).2.1<=1000:=by
     have h8:x.pc.toNat<x.prog.length:=zw
     unfold opAt;rw[Kz h8];exact(hl.2.2 _ (PJ h8)).1
    omega
   .have:=of_decide_eq_true h6
    omega
  omega
 split at h
 .simp only[J7,decide_eq_true_iff,dU,bz]at h
  omega
 split at h
 .simp only[J7,Kb,decide_eq_true_iff,dU,bz,lh]at h
  omega
 split at h
 .simp only[J7,Kb,decide_eq_true_iff,dU,bz,lh]at h
  omega
 .cases h
def Oy {p:aE}(h:aQ p){w:w_}{x:ao}(hx:x.toaD∈p.L8)(hr:Row w x.aY (fk.flat x.prog)):O0 w x:=by
 have h1:=cK h.L8 x.toaD hx;simp only[cH,J7,bz,fF,dG,Kb,decide_eq_true_iff]at h1;have hn:=bz.1 h.next;have hp:=NB h1.2.1.1.1.1.1.1.2;have hs:=Oj h1.2.1.1.2 h1.2.1.1.1.1.1.1.2;have h3:=M5 h1.2.1.1.1.1.1.2;have h4:=M5 h1.2.1.1.1.1.2;have ho: -9999999999<=x.on/\x.on<=9999999999:=by
  have h5:=h1.2.2
  split at h5
  .have:=has_in h h5
   omega
  .have:=hs.2.2.2.2.2.2.2.2.1 zw
   omega
 refine⟨λn hn=>?_,hp.1,⟨zw,λo ho=>by have:=(hp.2.2 o ho).2;omega,zw,zw⟩,hr⟩;exact Zaq
def Pl {P:Program}{ev:Operand->v_}{oi:Oper}{T abH:T_}{x y:Operand}{u v:ByteArray}(ho:oi.op=.binOp .add T x y abH)(hx:ev x=t_ u)(hy:ev y=t_ v)(hz:u.size+v.size<=9000000000000000000)(w:w_):(execOp ev oi).run P w=.ok (.value (t_ (u++v))) w:=by
 have hs:¬9223372036854775807<u.size+v.size:=zw
 simp only[execOp,ho]
 go_simp
section
variable {P:Program}{md:Region.Mode}{ops:Array Oper}{Q:Exit->Act->w_->Prop}{S:w_->Prop}{oi:Oper}{fuel:Nat}{RV:Array Bool}{a:Act}{d:Tmp}{T abH:T_}{x y:Operand}{u v:ByteArray}{a':ByteArray->Act}
def ad (n:Nat)(hu:u.size<=2000000000000*n)(hv:v.size<=2000000000000)(h:∀r:ByteArray,da (r=u++v)->r.size<=2000000000000*(n+1)->gR P md ops Q S fuel (RV.setIfInBounds (ops.size-(fuel+1)) true) (a' r))
  (hn:n<=1000:=by omega)(hi:ops[ops.size-(fuel+1)]? =o_ oi:=by rfl)(hd:oi.dst=o_ d:=by rfl)(ho:oi.op=.binOp .add T x y abH:=by rfl)(hx:a.eval x=t_ u:=by rfl)(hy:a.eval y=t_ v:=by rfl)(hc:Jj md ops RV (ops.size-(fuel+1)) oi (o_ d)=true:=by kernel_rfl)
  (hQ:∀c a w,Q (.panic c) (a.put (o_ d) (t_ (u++v))) w->Q (.panic c) a w:=by exactλ_ _ _ h=>h)(hw:Region.wanted oi (yielded ops a.tmps)=true:=by kernel_rfl)(ha:∀r,a.put (o_ d) (t_ r)=a' r:=by intro r;simp only[pt,sb,s0,s1];rfl):gR P md ops Q S (fuel+1) RV a:=
 yl (λw _=>Pl ho hx hy zw w) (by rw[ha];exact h _ rfl (by rw[QH];omega)) hi hd hc hQ hw
def y7 (n:Nat)(hu:u.size<=2000000000000*n)(h:∀r:ByteArray,da (r=u++v)->r.size<=2000000000000*(n+1)->gR P md ops Q S fuel (RV.setIfInBounds (ops.size-(fuel+1)) true) (a' r))
  (hn:n<=1000:=by omega)(hi:ops[ops.size-(fuel+1)]? =o_ oi:=by rfl)(hd:oi.dst=o_ d:=by rfl)(ho:oi.op=.binOp .add T x (.const (t_ v)) abH:=by rfl)(hx:a.eval x=t_ u:=by rfl)(hv:v.size<=2000000000000:=by decide)(hc:Jj md ops RV (ops.size-(fuel+1)) oi (o_ d)=true:=by kernel_rfl)
  (hQ:∀c a w,Q (.panic c) (a.put (o_ d) (t_ (u++v))) w->Q (.panic c) a w:=by exactλ_ _ _ h=>h)(hw:Region.wanted oi (yielded ops a.tmps)=true:=by kernel_rfl)(ha:∀r,a.put (o_ d) (t_ r)=a' r:=by intro r;simp only[pt,sb,s0,s1];rfl):gR P md ops Q S (fuel+1) RV a:=
 ad n hu hv h hn hi hd ho hx rfl hc hQ hw ha
def b9 (v:ByteArray)(f:FuncId)(KS:Array v_)(hf:∀w,S w->k_ P f KS w (λe w'=>e=r_ (t_ v)/\S w'))(h:gR P md ops Q S fuel (RV.setIfInBounds (ops.size-(fuel+1)) true) (a' v))
  (hi:ops[ops.size-(fuel+1)]? =o_ oi:=by rfl)(hd:oi.dst=o_ d:=by rfl)(hy:∀w,S w->(execOp a.eval oi).run P w=.ok (.enter f KS) w:=by intro w0 hS0;go_simp)(hc:Jj md ops RV (ops.size-(fuel+1)) oi (o_ d)=true:=by kernel_rfl)
  (hQ:∀c a w,Q (.panic c) (a.put (o_ d) (t_ v)) w->Q (.panic c) a w:=by exactλ_ _ _ h=>h)(hw:Region.wanted oi (yielded ops a.tmps)=true:=by kernel_rfl)(ha:∀r,a.put (o_ d) (t_ r)=a' r:=by intro r;simp only[pt,sb,s0,s1];rfl):gR P md ops Q S (fuel+1) RV a:=
 cl (t_ v) f KS hy hf Zdg hi hd hc hQ hw
end
end
end Go.Proofs.YtckenjkcmajicaaGreat
