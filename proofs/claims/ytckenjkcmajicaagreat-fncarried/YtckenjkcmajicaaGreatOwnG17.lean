/- What the proof leans on, part 17. -/
import Derived.Test.YtckenjkcmajicaaGreatOwnG14
import Derived.Test.YtckenjkcmajicaaGreatOwnG15
set_option linter.all false
set_option maxRecDepth 100000
set_option maxHeartbeats 8000000
open Go.Proofs.Tryz
open Go renaming World->w_,Value->v_,Calls->k_,Addr->d_,below_setRow->q_
open Go.Ending renaming returned->r_
open Go.IntKind renaming i64->j_
open Go.Obj renaming cells->c_
open Go.RowKit renaming Below->B_,Hid->da
open Go.Value renaming int->i_,slice->s_,bool->b_,string->t_,agg->a_
open Option renaming some->o_,none->n_
open Function renaming comp_def->Ls
open Go renaming wp_at_succ->Kd,wp_at_zero->Kc
open Go.Proofs.Tryz renaming prog->J3
open List renaming filterMap_cons->LH,getElem_cons_succ->K1,getElem_cons_zero->K0,getElem_toArray->KZ,length_cons->Lg,length_nil->K4
open Nat renaming add_zero->PT

open Go.RowKit
namespace Go.Proofs.YtckenjkcmajicaaGreat
section
open Go.Maps
attribute [local go_sem ↓] Kc Kd
def fE (code:Int)(x:ao):ao:=⟨jT code x.toaD,x.aY,x.bH⟩
abbrev CB (W w:w_)(bj:Nat)(q:af)(v:Array v_):Prop:=av W w.heap.size q/\W.heap[w.heap.size+1]? =o_ (c_ ar 46)/\W.heap[w.heap.size+1+1]? =o_ (c_ v 125)/\ap W bj q/\B_ w.heap.size w W
def aI.more {w w1 w2:w_}{bs:List Nat}(h:aI w w1 bs)(hb:B_ w.heap.size w1 w2):aI w w2 bs:=⟨hb.os.trans h.os,hb.tape.trans h.tape,hb.output.trans h.output,LG h.size hb.size,λg hg hn=>(hb.block g hg).trans (h.same g hg hn)⟩
def ug {W w:w_}{bj gs n:Nat}{q:af}{x y:ao}{vs:List v_}(h1:av W w.heap.size q)(h2:W.heap[w.heap.size+1]? =o_ (c_ ar 46))(h3:w.heap.size+1+1<W.heap.size)(h4:ap W bj q)(h5:B_ w.heap.size w W)
  (hx:q.L8[n]? =o_ x)(ha:q.aN=o_ ⟨gs,0,n_⟩)(hb:bj<=w.heap.size)(CT:bj<=gs)(hg2:gs<w.heap.size)(yD:∀g∈q.Mc,g<w.heap.size)(hv:vs=bg.vals y)(hy:y.prog=x.prog/\y.aY=x.aY/\y.bH=x.bH):
  W.there gs (n*12) 12/\ap (W.setCells gs (n*12) vs) bj ({q with L8:=q.L8.set n y}:af)/\av (W.setCells gs (n*12) vs) w.heap.size q/\(W.setCells gs (n*12) vs).heap[w.heap.size+1]? =o_ (c_ ar 46)/\B_ bj w (W.setCells gs (n*12) vs)/\(∀g∈({q with L8:=q.L8.set n y}:af).Mc,g≠w.heap.size+1)/\aI w (W.setCells gs (n*12) vs) [gs]:=by
 have hn:n<q.L8.length:=(Lj.1 hx).1;have hl:vs.length=12:=by rw[hv];exact bg.len y
 have oC:W.there gs (n*12) 12:=by
  obtain⟨g,hg,hrow⟩:=bl.fX (K:=bg) h4.L8 zw;exact Zab
 have h7:=h4.kB (n:=n) (j:=0) (x:=x) (y:=y) (vs:=vs) hx ha hy zw (λr _=>by rw[Li,hv]) (λr hr hn=>absurd ⟨Ky _,zw⟩ hn);rw[PT,<-iL]at h7;have hs:∀g,g≠gs->g<W.heap.size->(W.setCells gs (n*12) vs).heap[g]? =W.heap[g]?:=λg hg hl=>h7.2.1.same g hl (by simpa using hg)
 refine⟨oC,h7.1,(hs _ zw zw).trans h1,(hs _ zw zw).trans h2,(h5.mono hb).trans (h7.2.1.below zw ZbI),λg hg e=>?_,(aI.dI h5).trans h7.2.1⟩;have h8:=yD g (h7.2.2▸hg);omega
def ve (q:af)(n bj:Nat)(x:ao)(code:Int)(w:w_)(h:ap w bj q)(hb:bj<=w.heap.size)(hx:q.L8[n]? =o_ x)(hpc:0<=x.pc/\x.pc<x.prog.length)(hl:x.prog.length<=1048576):
  k_ J3 182 #[a_ q.cells,i_ j_ n,i_ j_ code] w λe w'=>e=r_ (a_ q.cells)/\ap w' bj ({q with L8:=q.L8.set n (fE code x)}:af)/\B_ bj w w'/\aI w w' (blk q.aN):=by
 obtain⟨gs,ha,hat⟩:=cn h.at.1 hx;have hgs:=cf h.L8 (g:=gs) ZcJ;have hnl:n<q.L8.length:=(Lj.1 hx).1;obtain⟨afG,afd,ps,pA,pC,ss,afV,afX,es,afA,afq,bs,afR,afK,fs,aga,afN,ts,afr,af4⟩:=q;simp only at ha;subst ha;obtain⟨C,hC⟩:∃C:Array v_,C=#[i_ j_ afG,i_ j_ afd,s_ (o_ ⟨gs,0,n_⟩) ps.length pC,s_ afV ss.length afX,s_ afA es.length afq,s_ afR bs.length afK,s_ aga fs.length afN,s_ afr ts.length af4]:=⟨_,rfl⟩
 obtain⟨G,hG⟩:∃G:Array v_,G=#[i_ j_ x.id,i_ j_ x.RX,s_ x.aY x.prog.length x.bH,i_ j_ 1,i_ j_ (x.pc+1),i_ j_ 0,i_ j_ 0,i_ j_ 0,t_ ⟨#[]⟩,t_ x.got,i_ j_ code,i_ j_ x.RU]:=⟨_,rfl⟩
 obtain⟨D,hD⟩:∃D:af,D=(⟨afG,afd,ps,o_ ⟨gs,0,n_⟩,pC,ss,afV,afX,es,afA,afq,bs,afR,afK,fs,aga,afN,ts,afr,af4⟩:af):=⟨_,rfl⟩
 obtain⟨A,hA⟩:∃A:w_,A=(w.alloc (c_ C 46)).alloc (c_ ar 46):=⟨_,rfl⟩
 obtain⟨B,hB⟩:∃B:w_,B=A.alloc (c_ G 125):=⟨_,rfl⟩
 have b1:B_ w.heap.size w A:=by rw[hA];exact dT _ _ _
 have b2:B_ w.heap.size w B:=by rw[hB,hA];exact fg _ _ _ _
 have h3:=dR w (c_ C 46) (c_ ar 46) (c_ G 125);have H6:da (CB B w bj D G):=by subst hB hA hG hD hC;exact⟨h3.1,h3.2.1,h3.2.2.1,h.below b2,b2⟩
 have HC:da (ps[n]? =o_ x/\bj<=gs/\gs<w.heap.size/\bj<=w.heap.size/\n<ps.length):=⟨hx,hgs.1,hgs.2,hb,hnl⟩
 obtain⟨d0,d1,d2,d3,d4,d5,d6,d7,d8,d9,tH,tS⟩:ao.At A gs n x:=by
  obtain⟨g,e,h5⟩:=cn (h.below b1).at.1 hx;cases e;exact h5
 have PBK:da (∀g∈D.Mc,g<w.heap.size):=λg hg=>(h.lt g (hD▸hg)).2
 obtain⟨n0,n1⟩:=hpc;have n2:x.pc<=1048576:=zw
 have j0:(0:Int)<=(n:Int):=zw
 have j1:(n:Int)<(ps.length:Int):=by have:n<ps.length:=hnl;omega
 clear h hb hx hgs hat b1 b2 h3 hnl hl;subst hB hA hG hD hC;unfold af.cells;simp only
 go_enter func182,ntmps182
 by_cases hlen:x.pc+1=x.prog.length
 .have afx:da (fE code x=(⟨j7 (jM code x.toaD),x.aY,x.bH⟩:ao)):=by show fE code x=_;unfold fE jT;rw[if_pos hlen]
  have e1:(x.pc+1==(x.prog.length:Int))=true:=by simp[hlen]
  clear hlen n1;have Mb:=mN (⟨jM code x.toaD,x.aY,x.bH⟩:ao);simp only[jM,rM]at Mb;go_wp2_with fail;clear d0 d1 d2 d3 d4 d5 d6 d7 d8 d9 tH tS e1;refine(Mb _).mono ?_;clear Mb;rintro e w5 ⟨rfl,iJ⟩;have H5:da (CB w5 w bj (⟨afG,afd,ps,o_ ⟨gs,0,n_⟩,pC,ss,afV,afX,es,afA,afq,bs,afR,afK,fs,aga,afN,ts,afr,af4⟩:af) #[i_ j_ x.id,i_ j_ x.RX,s_ x.aY x.prog.length x.bH,i_ j_ 1,i_ j_ (x.pc+1),i_ j_ 0,i_ j_ 0,i_ j_ 0,t_ ⟨#[]⟩,t_ x.got,i_ j_ code,i_ j_ x.RU]):=⟨H6.I.1.below iJ,(iJ.block _ (J2.1 H6.I.2.1).1).trans H6.I.2.1,(iJ.block _ (J2.1 H6.I.2.2.1).1).trans H6.I.2.2.1,H6.I.2.2.2.1.below iJ,H6.I.2.2.2.2.trans (iJ.mono H6.I.2.2.2.2.size)⟩
  have H8:da (CB (w5.setRow (w.heap.size+1+1) #[i_ j_ x.id,i_ j_ x.RX,s_ x.aY x.prog.length x.bH,i_ j_ 0,i_ j_ 0,i_ j_ 0,i_ j_ 0,i_ j_ 0,t_ ⟨#[]⟩,t_ x.got,i_ j_ code,i_ j_ 0]) w bj (⟨afG,afd,ps,o_ ⟨gs,0,n_⟩,pC,ss,afV,afX,es,afA,afq,bs,afR,afK,fs,aga,afN,ts,afr,af4⟩:af) #[i_ j_ x.id,i_ j_ x.RX,s_ x.aY x.prog.length x.bH,i_ j_ 0,i_ j_ 0,i_ j_ 0,i_ j_ 0,i_ j_ 0,t_ ⟨#[]⟩,t_ x.got,i_ j_ code,i_ j_ 0]):=by
   refine⟨(KH _ _ _ _ zw).trans H5.I.1,(KH _ _ _ _ zw).trans H5.I.2.1,KU _ _ _ _ _ _ H5.I.2.2.1,H5.I.2.2.2.1.same λg hg=>KH _ _ _ _ (by have:=PBK.I g hg;omega),q_ H5.I.2.2.2.2 zw _⟩
  clear iJ H6;obtain⟨m0,m1,m2,m3,m4,m5,m6,m7⟩:=H8.I.1.cells;obtain⟨r0,r1,r2,r3,r4,r5,r6,r7,r8,r9,Ju,Jq⟩:=bo (x:=(⟨j7 (jM code x.toaD),x.aY,x.bH⟩:ao)) H8.I.2.2.1;have hz:=ug (y:=(⟨j7 (jM code x.toaD),x.aY,x.bH⟩:ao)) (vs:=(#[i_ j_ x.id,i_ j_ x.RX,s_ x.aY x.prog.length x.bH,i_ j_ 0,i_ j_ 0,i_ j_ 0,i_ j_ 0,i_ j_ 0,t_ ⟨#[]⟩,t_ x.got,i_ j_ code,i_ j_ 0]:Array v_).toList) H8.I.1 H8.I.2.1 (J2.1 H8.I.2.2.1).1 H8.I.2.2.2.1 H8.I.2.2.2.2 HC.I.1 rfl HC.I.2.2.2.1 HC.I.2.1 HC.I.2.2.1 PBK.I rfl ⟨rfl,rfl,rfl⟩;have oC:=hz.1;have HZ:da (_):=hz.2;clear hz;simp only[j7,jM]at r0 r1 r2 r3 r4 r5 r6 r7 r8 r9 Ju Jq
  dsimp only
  repeat (first|(go_big_may;first|(refine wpList_store_row rfl 125 (Operand.tmp 7) (Operand.tmp 31) rfl (w.heap.size+1+1) _ _ #[i_ j_ x.id,i_ j_ x.RX,s_ x.aY x.prog.length x.bH,i_ j_ 0,i_ j_ 0,i_ j_ 0,i_ j_ 0,i_ j_ 0,t_ ⟨#[]⟩,t_ x.got,i_ j_ code,i_ j_ 0] rfl rfl H5.I.2.2.1 ZbG rfl ZbG ?_)|(refine wpList_store_mid rfl 125 (Operand.tmp 36) (Operand.tmp 35) rfl gs (n*12) #[i_ j_ x.id,i_ j_ x.RX,s_ x.aY x.prog.length x.bH,i_ j_ 0,i_ j_ 0,i_ j_ 0,i_ j_ 0,i_ j_ 0,t_ ⟨#[]⟩,t_ x.got,i_ j_ code,i_ j_ 0] rfl rfl ?ht ZbG ZbG ?_))|go_values|go_skip|go_guarded|go_step|go_upon)
  case ht=>exact oC
  clear oC m0 m1 m2 m3 m4 m5 m6 m7 r0 r1 r2 r3 r4 r5 r6 r7 r8 r9 Ju Jq;generalize World.setCells (w5.setRow (w.heap.size+1+1) #[i_ j_ x.id,i_ j_ x.RX,s_ x.aY x.prog.length x.bH,i_ j_ 0,i_ j_ 0,i_ j_ 0,i_ j_ 0,i_ j_ 0,t_ ⟨#[]⟩,t_ x.got,i_ j_ code,i_ j_ 0]) gs (n*12) (#[i_ j_ x.id,i_ j_ x.RX,s_ x.aY x.prog.length x.bH,i_ j_ 0,i_ j_ 0,i_ j_ 0,i_ j_ 0,i_ j_ 0,t_ ⟨#[]⟩,t_ x.got,i_ j_ code,i_ j_ 0]:Array v_).toList=WZ at*;exact ww
 .have afx:da (fE code x=(⟨jM code x.toaD,x.aY,x.bH⟩:ao)):=by show fE code x=_;unfold fE jT;rw[if_neg hlen]
  have e1:(x.pc+1==(x.prog.length:Int))=false:=by simp[hlen]
  clear hlen n1;obtain⟨m0,m1,m2,m3,m4,m5,m6,m7⟩:=H6.I.1.cells;obtain⟨r0,r1,r2,r3,r4,r5,r6,r7,r8,r9,Ju,Jq⟩:=bo (x:=(⟨jM code x.toaD,x.aY,x.bH⟩:ao)) H6.I.2.2.1;have hz:=ug (y:=(⟨jM code x.toaD,x.aY,x.bH⟩:ao)) (vs:=(#[i_ j_ x.id,i_ j_ x.RX,s_ x.aY x.prog.length x.bH,i_ j_ 1,i_ j_ (x.pc+1),i_ j_ 0,i_ j_ 0,i_ j_ 0,t_ ⟨#[]⟩,t_ x.got,i_ j_ code,i_ j_ x.RU]:Array v_).toList) H6.I.1 H6.I.2.1 (J2.1 H6.I.2.2.1).1 H6.I.2.2.2.1 H6.I.2.2.2.2 HC.I.1 rfl HC.I.2.2.2.1 HC.I.2.1 HC.I.2.2.1 PBK.I rfl ⟨rfl,rfl,rfl⟩;have oC:=hz.1;have HZ:da (_):=hz.2;clear hz;simp only[jM]at r0 r1 r2 r3 r4 r5 r6 r7 r8 r9 Ju Jq
  repeat (first|(go_big_may;first|(refine wpList_store_mid rfl 125 (Operand.tmp 36) (Operand.tmp 35) rfl gs (n*12) #[i_ j_ x.id,i_ j_ x.RX,s_ x.aY x.prog.length x.bH,i_ j_ 1,i_ j_ (x.pc+1),i_ j_ 0,i_ j_ 0,i_ j_ 0,t_ ⟨#[]⟩,t_ x.got,i_ j_ code,i_ j_ x.RU] rfl rfl ?ht ZbG ZbG ?_))|go_values|go_skip|go_guarded|go_step|go_upon)
  case ht=>exact oC
  clear oC m0 m1 m2 m3 m4 m5 m6 m7 r0 r1 r2 r3 r4 r5 r6 r7 r8 r9 Ju Jq;generalize World.setCells _ gs (n*12) (#[i_ j_ x.id,i_ j_ x.RX,s_ x.aY x.prog.length x.bH,i_ j_ 1,i_ j_ (x.pc+1),i_ j_ 0,i_ j_ 0,i_ j_ 0,t_ ⟨#[]⟩,t_ x.got,i_ j_ code,i_ j_ x.RU]:Array v_).toList=WZ at*;exact ww
def Bt {W w:w_}{bj gs n:Nat}{q:af}{x:ao}{nx:Int}(h1:av W w.heap.size q)(h2:W.heap[w.heap.size+1]? =o_ (c_ ar 46))(h4:ap W bj q)(h5:B_ w.heap.size w W)
  (hx:q.L8[n]? =o_ x)(ha:q.aN=o_ ⟨gs,0,n_⟩)(hb:bj<=w.heap.size)(CT:bj<=gs)(hg2:gs<w.heap.size)(yD:∀g∈q.Mc,g<w.heap.size):
  ((∃u,W.cell? ⟨gs,n*12+11,n_⟩=o_ u)/\W.frozen? ⟨gs,n*12+11,n_⟩=false)/\ap (W.setCell ⟨gs,n*12+11,n_⟩ (i_ j_ nx)) bj ({q with L8:=q.L8.set n {x with RU:=nx}}:af)/\av (W.setCell ⟨gs,n*12+11,n_⟩ (i_ j_ nx)) w.heap.size q/\(W.setCell ⟨gs,n*12+11,n_⟩ (i_ j_ nx)).heap[w.heap.size+1]? =o_ (c_ ar 46)/\B_ bj w (W.setCell ⟨gs,n*12+11,n_⟩ (i_ j_ nx))/\(∀g∈({q with L8:=q.L8.set n {x with RU:=nx}}:af).Mc,g<w.heap.size)/\aI w (W.setCell ⟨gs,n*12+11,n_⟩ (i_ j_ nx)) [gs]:=by
 have hn:n<q.L8.length:=(Lj.1 hx).1;have hc:(∃u,W.cell? ⟨gs,n*12+11,n_⟩=o_ u)/\W.frozen? ⟨gs,n*12+11,n_⟩=false:=by
  obtain⟨g,hg,hrow⟩:=bl.fX (K:=bg) h4.L8 zw;exact ZaS
 have h7:=h4.kB (n:=n) (j:=11) (x:=x) (y:= { x with RU:=nx }) (vs:= [i_ j_ nx]) hx ha ⟨rfl,rfl,rfl⟩ (by show 11+1<=12; omega) (λ r hr=>by match r,hr with | 0,_=>rfl) (λr hr hn=>by
  have hne:r≠11:=λe=>hn ⟨zw,by show r<11+1;omega⟩
  match r,hr,hne with|0,_,_=>rfl|1,_,_=>rfl|2,_,_=>rfl|3,_,_=>rfl|4,_,_=>rfl|5,_,_=>rfl|6,_,_=>rfl|7,_,_=>rfl|8,_,_=>rfl|9,_,_=>rfl|10,_,_=>rfl|11,_,hne=>exact absurd rfl hne)
 simp only[bn]at h7;have l1:=(J2.1 h2).1;have hs:∀g,g≠gs->(W.setCell ⟨gs,n*12+11,n_⟩ (i_ j_ nx)).heap[g]? =W.heap[g]?:=λg hg=>aH hg
 exact⟨hc,h7.1,(hs _ zw).trans h1,(hs _ zw).trans h2,(h5.mono hb).trans (h7.2.1.below (by have:=h5.size;omega) ZbI),λg hg=>yD g (h7.2.2▸hg),(aI.dI h5).trans h7.2.1⟩
def qG (q:af)(n bj:Nat)(x:ao)(w:w_)(h:ap w bj q)(hb:bj<=w.heap.size)(hx:q.L8[n]? =o_ x)(hn:0<=q.next/\q.next<=1000000000):
  k_ J3 138 #[a_ q.cells,i_ j_ n] w λe w'=>∃q2:af,e=r_ (a_ q2.cells)/\q2={q with next:=q.next+1,L8:=q.L8.set n {x with RU:=q.next}}/\ap w' bj q2/\B_ bj w w'/\aI w w' (blk q.aN):=by
 obtain⟨gs,ha,-⟩:=cn h.at.1 hx;have hgs:=cf h.L8 (g:=gs) ZcJ;have hnl:n<q.L8.length:=(Lj.1 hx).1;have b1:B_ w.heap.size w ((w.alloc (c_ q.cells 46)).alloc (c_ ar 46)):=dT _ _ _;have h2:=cZ w (c_ q.cells 46) (c_ ar 46);have hz:=Bt (nx:=q.next) h2.1 h2.2 (h.below b1) b1 hx ha hb hgs.1 hgs.2 λg hg=>(h.lt g hg).2
 obtain⟨⟨⟨u,pe⟩,f11⟩,hz⟩:=hz;have H2:da (_):=hz;have HB:da (av ((w.alloc (c_ q.cells 46)).alloc (c_ ar 46)) w.heap.size q/\bj<=w.heap.size/\q.aN=o_ ⟨gs,0,n_⟩):=⟨h2.1,hb,ha⟩
 have H3:da ((((w.alloc (c_ q.cells 46)).alloc (c_ ar 46)).setCell ⟨gs,n*12+11,n_⟩ (i_ j_ q.next)).setCell ⟨w.heap.size,1,n_⟩ (i_ j_ (q.next+1))|> λW=>av W w.heap.size {q with next:=q.next+1}/\W.heap[w.heap.size+1]? =o_ (c_ ar 46)/\ap W bj {q with next:=q.next+1,L8:=q.L8.set n {x with RU:=q.next}}/\B_ bj w W/\(∀g∈({q with L8:=q.L8.set n {x with RU:=q.next}}:af).Mc,g<w.heap.size)/\aI w W [gs]):=by
  have ho:=hz.1.same (w':=(((w.alloc (c_ q.cells 46)).alloc (c_ ar 46)).setCell ⟨gs,n*12+11,n_⟩ (i_ j_ q.next)).setCell ⟨w.heap.size,1,n_⟩ (i_ j_ (q.next+1))) λg hg=>aH (by have:=hz.2.2.2.2.1 g hg;omega)
  exact⟨cx (i:=1) (v:=i_ j_ (q.next+1)) hz.2.1,(aH zw).trans hz.2.2.1,⟨ho.L8,ho.aj,ho.L9,ho.ag,ho.ae,ho.ai,ho.eI,ho.eE,ho.eR,ho.nodup⟩,bP hz.2.2.2.1 hb,hz.2.2.2.2.1,hz.2.2.2.2.2.more (bP (Kp _ _) (Ki _))⟩
 have k1f:(((w.alloc (c_ q.cells 46)).alloc (c_ ar 46)).setCell ⟨gs,n*12+11,n_⟩ (i_ j_ q.next)).frozen? ⟨w.heap.size,1,n_⟩=false:=Ko _ _ _ _ _ hz.2.1;have k1:=hz.2.1.cells.2.1;obtain⟨-,m1,m2,-⟩:=h2.1|>av.cells (p:=q)
 obtain⟨r0,r1,r2,r3,r4,r5,r6,r7⟩:=H3.I.1.cells;have j0:(0:Int)<=(n:Int):=zw
 have j1:(n:Int)<(q.L8.length:Int):=zw
 obtain⟨n0,n1⟩:=hn;clear h hb hx b1 h2 hz hgs hnl;rw[ha]at m2;unfold af.cells at*;simp only[HB.I.2.2]at*
 go_enter func138,ntmps138
 go_wp2_with(refine ec _ _ #[i_ j_ q.id,i_ j_ (q.next+1),s_ (o_ ⟨gs,0,n_⟩) q.L8.length q.aW,s_ q.bc q.aj.length q.bF,s_ q.ay q.L9.length q.aO,s_ q.ax q.ag.length q.aP,s_ q.am q.ae.length q.aG,s_ q.aK q.ai.length q.aV] H3.I.2.1 ?_);refine gZ results138 H3.I.2.1 ?_;have hb:=HB.I.2.1;refine⟨_,?_,rfl,H3.I.2.2.1.same λg hg=>KH _ _ _ _ (by have:=H3.I.2.2.2.2.1 g hg;omega),q_ H3.I.2.2.2.1 zw _,?_⟩
 .simp only[LI]
 .exact H3.I.2.2.2.2.2.more (q_ (Kp _ _) zw _)
def pF (nx code:Int)(x:ao):ao:=⟨iY nx code x.toaD,x.aY,x.bH⟩
abbrev yA (W w:w_)(bj gs:Nat)(z q:af):Prop:=av W w.heap.size z/\W.heap[w.heap.size+1]? =o_ (c_ ar 46)/\ap W bj q/\aI w W [gs]/\B_ bj w W
def re {n:Nat}{x y:ao}{l:List ao}(hx:l[n]? =o_ x)(hy:y.aY=x.aY):(l.set n y).filterMap aR.bt=l.filterMap aR.bt:=by
 have hn:=(Lj.1 hx).1;have e:l[n]=x:=(Lj.1 hx).2;rw[RJ,if_pos hn]
 conv=>rhs;rw[<-Qn n l,adH hn]
 simp only[LW,LH,e];have hk:aR.bt y=aR.bt x:=by show(y.aY).map _=(x.aY).map _;rw[hy]
 rw[hk]
def Ad {n:Nat}{q:af}{x:ao}{code:Int}{g:Nat}(hx:q.L8[n]? =o_ x)(h:g∈({q with L8:=q.L8.set n (fE code x)}:af).Mc):g∈q.Mc:=by
 unfold af.Mc at h⊢;simp only[re hx (show(fE code x).aY=x.aY from rfl)]at h;exact h
def yZ {n:Nat}{q:af}{nx s:Int}{y:ao}{g:Nat}(hx:q.L8[n]? =o_ y)(h:g∈({q with next:=nx,L8:=q.L8.set n {y with RU:=s}}:af).Mc):g∈q.Mc:=by
 unfold af.Mc at h⊢;simp only[re hx (show({y with RU:=s}:ao).aY=y.aY from rfl)]at h;exact h
def vT (q:af)(n bj:Nat)(x:ao)(code:Int)(w:w_)(h:ap w bj q)(hb:bj<=w.heap.size)(hx:q.L8[n]? =o_ x)(hpc:0<=x.pc/\x.pc<x.prog.length)(hl:x.prog.length<=1048576)(hn:0<=q.next/\q.next<=1000000000):
  k_ J3 181 #[a_ q.cells,i_ j_ n,i_ j_ code] w λe w'=>∃q2:af,e=r_ (a_ q2.cells)/\q2={q with next:=gf q.next x.toaD,L8:=q.L8.set n (pF q.next code x)}/\ap w' bj q2/\B_ bj w w'/\aI w w' (blk q.aN):=by
 obtain⟨gs,ha,-⟩:=cn h.at.1 hx;have hgs:=cf h.L8 (g:=gs) ZcJ;have hnl:n<q.L8.length:=(Lj.1 hx).1;obtain⟨afG,afd,ps,pA,pC,ss,afV,afX,es,afA,afq,bs,afR,afK,fs,aga,afN,ts,afr,af4⟩:=q;simp only at ha;subst ha;obtain⟨C,hC⟩:∃C:Array v_,C=#[i_ j_ afG,i_ j_ afd,s_ (o_ ⟨gs,0,n_⟩) ps.length pC,s_ afV ss.length afX,s_ afA es.length afq,s_ afR bs.length afK,s_ aga fs.length afN,s_ afr ts.length af4]:=⟨_,rfl⟩
 obtain⟨D,hD⟩:∃D:af,D=(⟨afG,afd,ps,o_ ⟨gs,0,n_⟩,pC,ss,afV,afX,es,afA,afq,bs,afR,afK,fs,aga,afN,ts,afr,af4⟩:af):=⟨_,rfl⟩
 obtain⟨A,hA⟩:∃A:w_,A=(w.alloc (c_ C 46)).alloc (c_ ar 46):=⟨_,rfl⟩
 have b1:B_ w.heap.size w A:=by rw[hA];exact dT _ _ _
 have h2:=cZ w (c_ C 46) (c_ ar 46);have HC:da (ps[n]? =o_ x/\bj<=gs/\gs<w.heap.size/\bj<=w.heap.size/\n<ps.length):=⟨hx,hgs.1,hgs.2,hb,hnl⟩
 have PBK:da (∀g∈D.Mc,g<w.heap.size):=λg hg=>(h.lt g (hD▸hg)).2
 have HA:da (av A w.heap.size D/\A.heap[w.heap.size+1]? =o_ (c_ ar 46)/\ap A bj D/\B_ w.heap.size w A):=by subst hA hD hC;exact⟨h2.1,h2.2,h.below b1,b1⟩
 subst hA hD hC;have HN:da (0<=afd/\afd<=1000000000):=hn;have Mb:=ve _ n bj x code _ HA.I.2.2.1 (by have:=HC.I.2.2.2.1;have:=b1.size;omega) hx hpc hl;have j0:(0:Int)<=(n:Int):=zw
 have j1:(n:Int)<((ps.set n (fE code x)).length:Int):=by have:n<ps.length:=hnl;rw[LI];omega
 rw[LI]at j1;clear h hb hx hgs b1 h2 hnl hl hpc hn;unfold af.cells at Mb⊢;simp only at Mb⊢
 go_enter func181,ntmps181
 obtain⟨m0,m1,m2,m3,m4,m5,m6,m7⟩:=HA.I.1.cells;go_wp2_with fail;clear m0 m1 m2 m3 m4 m5 m6 m7;refine Mb.mono ?_;clear Mb;rintro e w1 ⟨rfl,ho1,hb1,hk1⟩;have H1:da (yA w1 w bj gs (⟨afG,afd,ps,o_ ⟨gs,0,n_⟩,pC,ss,afV,afX,es,afA,afq,bs,afR,afK,fs,aga,afN,ts,afr,af4⟩:af) (⟨afG,afd,(ps.set n (fE code x)),o_ ⟨gs,0,n_⟩,pC,ss,afV,afX,es,afA,afq,bs,afR,afK,fs,aga,afN,ts,afr,af4⟩:af)):=by
  have hc:=HC.I;have hk:aI w w1 [gs]:=(aI.dI HA.I.2.2.2).trans hk1;have l1:=(J2.1 HA.I.2.1).1;exact⟨(hk1.same _ zw Zdv).trans HA.I.1,(hk1.same _ zw Zdv).trans HA.I.2.1,ho1,hk,(HA.I.2.2.2.mono hc.2.2.2.1).trans hb1⟩
 have PB1:da (∀g∈(⟨afG,afd,(ps.set n (fE code x)),o_ ⟨gs,0,n_⟩,pC,ss,afV,afX,es,afA,afq,bs,afR,afK,fs,aga,afN,ts,afr,af4⟩:af).Mc,g<w.heap.size):=λg hg=>PBK.I g (Ad HC.I.1 hg)
 clear ho1 hb1 hk1 HA;have H2:da (yA (w1.setRow w.heap.size #[i_ j_ afG,i_ j_ afd,s_ (o_ ⟨gs,0,n_⟩) ps.length pC,s_ afV ss.length afX,s_ afA es.length afq,s_ afR bs.length afK,s_ aga fs.length afN,s_ afr ts.length af4]) w bj gs (⟨afG,afd,ps,o_ ⟨gs,0,n_⟩,pC,ss,afV,afX,es,afA,afq,bs,afR,afK,fs,aga,afN,ts,afr,af4⟩:af) (⟨afG,afd,(ps.set n (fE code x)),o_ ⟨gs,0,n_⟩,pC,ss,afV,afX,es,afA,afq,bs,afR,afK,fs,aga,afN,ts,afr,af4⟩:af)):=by
  have hc:=HC.I;exact⟨KU _ _ _ _ _ _ H1.I.1,(KH _ _ _ _ zw).trans H1.I.2.1,H1.I.2.2.1.same λg hg=>KH _ _ _ _ (by have:=PB1.I g hg;omega),H1.I.2.2.2.1.more (q_ (Kp _ _) zw _),q_ H1.I.2.2.2.2 zw _⟩
 have hx1:(ps.set n (fE code x))[n]? =o_ (fE code x):=by rw[LU HC.I.2.2.2.2]
 have xi:da ((ps.set n (fE code x))[n]? =o_ (fE code x)):=hx1;obtain⟨m0,m1,m2,m3,m4,m5,m6,m7⟩:=H2.I.1.cells;obtain⟨d3⟩:World.cell? (w1.setRow w.heap.size #[i_ j_ afG,i_ j_ afd,s_ (o_ ⟨gs,0,n_⟩) ps.length pC,s_ afV ss.length afX,s_ afA es.length afq,s_ afR bs.length afK,s_ aga fs.length afN,s_ afr ts.length af4]) ⟨gs,n*12+3,n_⟩=o_ (i_ j_ (fE code x).Md)/\True:=by
  obtain⟨g,e,h5⟩:=cn H2.I.2.2.1.at.1 hx1;cases e;exact⟨h5.2.2.2.1,trivial⟩
 by_cases hlen:x.pc+1=x.prog.length
 .have e1:((fE code x).Md==1)=false:=by show((jT code x.toaD).Md==1)=false;unfold jT;rw[if_pos hlen];rfl
  have HE:da (gf afd x.toaD=afd/\pF afd code x=(fE code x)):=by show _/\_;unfold gf pF fE iY jT;rw[if_pos hlen,if_pos hlen,if_pos hlen];exact⟨rfl,rfl⟩
  clear hlen hx1;go_wp2_with(first|(refine ec _ _ #[i_ j_ afG,i_ j_ afd,s_ (o_ ⟨gs,0,n_⟩) ps.length pC,s_ afV ss.length afX,s_ afA es.length afq,s_ afR bs.length afK,s_ aga fs.length afN,s_ afr ts.length af4] H1.I.1 ?_)|(refine ec _ _ #[i_ j_ afG,i_ j_ afd,s_ (o_ ⟨gs,0,n_⟩) ps.length pC,s_ afV ss.length afX,s_ afA es.length afq,s_ afR bs.length afK,s_ aga fs.length afN,s_ afr ts.length af4] H2.I.2.1 ?_));refine gZ results181 H2.I.2.1 ?_;rw[HE.I.1,HE.I.2];refine⟨_,?_,rfl,H2.I.2.2.1.same λg hg=>KH _ _ _ _ (by have:=PB1.I g hg;omega),q_ H2.I.2.2.2.2 ZeD _,H2.I.2.2.2.1.more (q_ (Kp _ _) zw _)⟩;simp only[LI]
 have e1:((fE code x).Md==1)=true:=by show((jT code x.toaD).Md==1)=true;unfold jT;rw[if_neg hlen];rfl
 have HE:da (gf afd x.toaD=afd+1/\pF afd code x={(fE code x)with RU:=afd}):=by show _/\_;unfold gf pF fE iY jT;rw[if_neg hlen,if_neg hlen,if_neg hlen];exact⟨rfl,rfl⟩
 clear hlen;have Mb:=qG _ n bj (fE code x) _ H2.I.2.2.1 (by have:=HC.I.2.2.2.1;have:=H2.I.2.2.2.1.size;omega) hx1 HN.I;unfold af.cells at Mb;simp only[LI]at Mb;clear hx1;go_wp2_with(refine ec _ _ #[i_ j_ afG,i_ j_ afd,s_ (o_ ⟨gs,0,n_⟩) ps.length pC,s_ afV ss.length afX,s_ afA es.length afq,s_ afR bs.length afK,s_ aga fs.length afN,s_ afr ts.length af4] H1.I.1 ?_);clear m0 m1 m2 m3 m4 m5 m6 m7 d3 e1;refine Mb.mono ?_;clear Mb;rintro e w3 ⟨q3,he,rfl,Bn,hb3,hk3⟩;simp only[LI]at he;subst he;have H3:da (yA w3 w bj gs (⟨afG,afd,ps,o_ ⟨gs,0,n_⟩,pC,ss,afV,afX,es,afA,afq,bs,afR,afK,fs,aga,afN,ts,afr,af4⟩:af) (⟨afG,(afd+1),((ps.set n (fE code x)).set n ({(fE code x)with RU:=afd}:ao)),o_ ⟨gs,0,n_⟩,pC,ss,afV,afX,es,afA,afq,bs,afR,afK,fs,aga,afN,ts,afr,af4⟩:af)):=by
  have hc:=HC.I;have l1:=(J2.1 H2.I.2.1).1;exact⟨(hk3.same _ zw Zdv).trans H2.I.1,(hk3.same _ zw Zdv).trans H2.I.2.1,Bn,H2.I.2.2.2.1.trans hk3,H2.I.2.2.2.2.trans hb3⟩
 have PB3:da (∀g∈(⟨afG,(afd+1),((ps.set n (fE code x)).set n ({(fE code x)with RU:=afd}:ao)),o_ ⟨gs,0,n_⟩,pC,ss,afV,afX,es,afA,afq,bs,afR,afK,fs,aga,afN,ts,afr,af4⟩:af).Mc,g<w.heap.size):=λg hg=>PB1.I g (yZ (q:=(⟨afG,afd,(ps.set n (fE code x)),o_ ⟨gs,0,n_⟩,pC,ss,afV,afX,es,afA,afq,bs,afR,afK,fs,aga,afN,ts,afr,af4⟩:af)) xi.I hg)
 clear Bn hb3 hk3 H1 H2;have H4:da (yA (w3.setRow w.heap.size #[i_ j_ afG,i_ j_ (afd+1),s_ (o_ ⟨gs,0,n_⟩) ps.length pC,s_ afV ss.length afX,s_ afA es.length afq,s_ afR bs.length afK,s_ aga fs.length afN,s_ afr ts.length af4]) w bj gs (⟨afG,(afd+1),ps,o_ ⟨gs,0,n_⟩,pC,ss,afV,afX,es,afA,afq,bs,afR,afK,fs,aga,afN,ts,afr,af4⟩:af) (⟨afG,(afd+1),((ps.set n (fE code x)).set n ({(fE code x)with RU:=afd}:ao)),o_ ⟨gs,0,n_⟩,pC,ss,afV,afX,es,afA,afq,bs,afR,afK,fs,aga,afN,ts,afr,af4⟩:af)):=by
  have hc:=HC.I;exact⟨KU _ _ _ _ _ _ H3.I.1,(KH _ _ _ _ zw).trans H3.I.2.1,H3.I.2.2.1.same λg hg=>KH _ _ _ _ (by have:=PB3.I g hg;omega),H3.I.2.2.2.1.more (q_ (Kp _ _) zw _),q_ H3.I.2.2.2.2 zw _⟩
 obtain⟨m0,m1,m2,m3,m4,m5,m6,m7⟩:=H4.I.1.cells;go_wp2_with(first|(refine ec _ _ #[i_ j_ afG,i_ j_ (afd+1),s_ (o_ ⟨gs,0,n_⟩) ps.length pC,s_ afV ss.length afX,s_ afA es.length afq,s_ afR bs.length afK,s_ aga fs.length afN,s_ afr ts.length af4] H3.I.1 ?_)|(refine ec _ _ #[i_ j_ afG,i_ j_ (afd+1),s_ (o_ ⟨gs,0,n_⟩) ps.length pC,s_ afV ss.length afX,s_ afA es.length afq,s_ afR bs.length afK,s_ aga fs.length afN,s_ afr ts.length af4] H4.I.2.1 ?_));refine gZ results181 H4.I.2.1 ?_;rw[HE.I.1,HE.I.2];refine⟨_,?_,rfl,?_,q_ H4.I.2.2.2.2 ZeD _,H4.I.2.2.2.1.more (q_ (Kp _ _) zw _)⟩
 .simp only[LI]
 .have h5:=H4.I.2.2.1.same (w':=(w3.setRow w.heap.size #[i_ j_ afG,i_ j_ (afd+1),s_ (o_ ⟨gs,0,n_⟩) ps.length pC,s_ afV ss.length afX,s_ afA es.length afq,s_ afR bs.length afK,s_ aga fs.length afN,s_ afr ts.length af4]).setRow (w.heap.size+1) #[i_ j_ afG,i_ j_ (afd+1),s_ (o_ ⟨gs,0,n_⟩) ps.length pC,s_ afV ss.length afX,s_ afA es.length afq,s_ afR bs.length afK,s_ aga fs.length afN,s_ afr ts.length af4]) λg hg=>KH _ _ _ _ (by have:=PB3.I g hg;omega)
  rw[PV]at h5;exact h5
end
section
def jH (w:w_)(bj:Nat)(q:af)(f:aE)(e:Ending)(w':w_):Prop:=∃q2:af,e=r_ (a_ q2.cells)/\q2.pure=f/\yr w bj q q2 w'
structure Fr (w:w_)(M bj:Nat)(q0 z q:af)(W:w_):Prop where
 box:av W w.heap.size z
 own:ap W bj q
 kept:aI w W q0.Mc
 far:∀g∈q.Mc,g∈q0.Mc\/M<=g
 lo:∀g∈q0.Mc,bj<=g/\g<w.heap.size
 sz:w.heap.size<M/\M<=W.heap.size/\bj<=w.heap.size
section
variable {w W W2:w_}{M bj:Nat}{q0 z q q2:af}
def Fr.yO (h:Fr w M bj q0 z q W){X:Nat}(h1:w.heap.size<=X)(h2:X<M):X∉q.Mc:=λhm=>by
 rcases h.far X hm with h3|h3
 .have:=(h.lo X h3).2;omega
 .omega
def Fr.start (h:ap w bj q)(hb:bj<=w.heap.size)(hx:av W w.heap.size q)(hw:B_ w.heap.size w W)(hM:w.heap.size<M/\M<=W.heap.size):Fr w M bj q q q W:=
 ⟨hx,h.below hw,aI.dI hw,λ_ hg=>.inl hg,h.lt,hM.1,hM.2,hb⟩
def Fr.call (h:Fr w M bj q0 z q W)(ht:yr W bj q q2 W2):Fr w M bj q0 z q2 W2/\∀X,w.heap.size<=X->X<M->W2.heap[X]? =W.heap[X]?:=by
 have hk:∀X,w.heap.size<=X->X<M->W2.heap[X]? =W.heap[X]?:=λX h1 h2=>ht.kept.same X ZdY (h.yO h1 h2)
 refine⟨⟨(hk _ (Ki _) h.sz.1).trans h.box,ht.own,⟨ht.kept.os.trans h.kept.os,ht.kept.tape.trans h.kept.tape,ht.kept.output.trans h.kept.output,LG h.kept.size ht.kept.size,λg h1 h2=>(ht.kept.same g ZeL λhm=>?_).trans (h.kept.same g h1 h2)⟩,λg hg=>?_,h.lo,h.sz.1,LG h.sz.2.1 ht.kept.size,h.sz.2.2⟩,hk⟩
 .rcases h.far g hm with h3|h3
  .exact h2 h3
  .have:=h.sz;omega
 .rcases ht.far g hg with h3|h3
  .exact h.far g h3
  .exact .inr ZdY
def Fr.reads (h:Fr w M bj q0 z q W)(hb:B_ W.heap.size W W2):Fr w M bj q0 z q W2/\∀X,X<M->W2.heap[X]? =W.heap[X]?:=
 ⟨⟨h.box.below hb,h.own.below hb,⟨hb.os.trans h.kept.os,hb.tape.trans h.kept.tape,hb.output.trans h.kept.output,LG h.kept.size hb.size,λg h1 h2=>(hb.block g ZeL).trans (h.kept.same g h1 h2)⟩,h.far,h.lo,h.sz.1,LG h.sz.2.1 hb.size,h.sz.2.2⟩,λX hX=>hb.block X ZdY⟩
def Fr.other (h:Fr w M bj q0 z q W){X:Nat}(h1:w.heap.size<=X)(h2:X<M)(cs:Array v_)(hz:av (W.setRow X cs) w.heap.size q2):Fr w M bj q0 q2 q (W.setRow X cs):=
 ⟨hz,h.own.same λg hg=>KH _ _ _ _ λe=>h.yO h1 h2 (e▸hg),⟨h.kept.os,h.kept.tape,h.kept.output,by simpa using h.kept.size,λg h3 h4=>(KH _ _ _ _ zw).trans (h.kept.same g h3 h4)⟩,h.far,h.lo,h.sz.1,by simpa using h.sz.2.1,h.sz.2.2⟩
def Fr.put (h:Fr w M bj q0 z q W):Fr w M bj q0 q q (W.setRow w.heap.size q.cells):=h.other (Ki _) h.sz.1 _ (KU _ _ _ _ _ _ h.box)
def Fr.mK (h:Fr w M bj q0 z q W){X:Nat}(h1:w.heap.size<X)(h2:X<M)(cs:Array v_):yr w bj q0 q (W.setRow X cs):=by
 have h3:=h.other (q2:=z) (aew h1) h2 cs ((KH _ _ _ _ zw).trans h.box);exact⟨h3.own,h3.kept,λg hg=>(h3.far g hg).imp_right λh4=>ZdY⟩
end
section
variable {w W w':w_}{M bj n m gs:Nat}{q0 z q q2:af}{x y:ao}
def tN (ha:q.aN=o_ ⟨gs,0,n_⟩):gs∈q.Mc:=by unfold af.Mc;rw[ha];simp[blk]
def yr.of (ho:ap w' bj q2)(hk:aI w w' (blk q.aN))(hb:q2.Mc=q.Mc):yr w bj q q2 w':=
 ⟨ho,hk.mono λg hg=>by unfold af.Mc;exact Lz _ hg,λg hg=>.inl (hb▸hg)⟩
def yr.refl (h:ap w bj q):yr w bj q q w:=⟨h,aI.refl _ _,λ_ hg=>.inl hg⟩
def nT {nx:Int}(hx:q.L8[n]? =o_ x)(hy:y.aY=x.aY):({q with next:=nx,L8:=q.L8.set n y}:af).Mc=q.Mc:=by
 unfold af.Mc;simp only[re hx hy]
def jd {nx:Int}:({q with next:=nx,L8:=q.L8.set n y}:af).cells=({q with next:=nx}:af).cells:=ZcC
def mj (hx:q.L8[n]? =o_ x):q.pure.L8[n]? =o_ x.toaD:=by show(q.L8.map (·.toaD))[n]? =_;rw[Kk,hx];rfl
def iu (hx:q.L8[n]? =o_ x):x.toaD∈q.pure.L8:=KA (mj hx)
def g7 {nx:Int}{f:aD->aD}(hr:q.pure.L8.Pairwise (λx y=>x.id<y.id))(hx:q.L8[n]? =o_ x)(hy:y.toaD=f x.toaD):({q with next:=nx,L8:=q.L8.set n y}:af).pure={q.pure with next:=nx,L8:=ce x.id f q.pure.L8}:=by
 rw[rp hr (mj hx) rfl,<-hy]
 show({q.pure with next:=nx,L8:=(q.L8.set n y).map (·.toaD)}:aE)=_
 rw[PN];rfl
def bB (code:Int)(h:ap w bj q)(hb:bj<=w.heap.size)(hr:aQ q.pure)(hx:q.L8[n]? =o_ x)(h0:¬x.Md=0):k_ J3 182 #[a_ q.cells,i_ j_ n,i_ j_ code] w (jH w bj q (bu code x.id q.pure)):=by
 have h1:=(hr.proc (iu hx)).2.1;have h2:=iT h1 h0;have h3:=iF h1;unfold jY at h3;simp only[J7]at h3;have h4:=(lK h3.1.1.1.2).2;refine(ve q n bj x code w h hb hx h2 zw).mono ?_;rintro e w' ⟨rfl,ho,-,hk⟩;exact⟨({q with L8:=q.L8.set n (fE code x)}:af),congrArg (λc=>Ending.returned (a_ c)) (jd (nx:=q.next)).symm,g7 hr.kW hx (f:=jT code) rfl,yr.of ho hk (nT hx rfl)⟩
def lP (h:ap w bj q)(hb:bj<=w.heap.size)(hr:aQ q.pure)(hx:q.L8[n]? =o_ x)(h0:¬x.Md=0)(hn:q.next<=1000000000):k_ J3 181 #[a_ q.cells,i_ j_ n,i_ j_ 0] w (jH w bj q (gF (λy=>y) q.pure x.toaD)):=by
 have h1:=(hr.proc (iu hx)).2.1;have h2:=iT h1 h0;have h3:=iF h1;unfold jY at h3;simp only[J7]at h3;have h4:=(lK h3.1.1.1.2).2;have h5:=bz.1 hr.next;refine(vT q n bj x 0 w h hb hx h2 zw ⟨ZfG,hn⟩).mono ?_;rintro e w' ⟨q2,rfl,rfl,ho,-,hk⟩;exact⟨_,rfl,g7 hr.kW hx (f:=iY q.next 0) rfl,yr.of ho hk (nT hx rfl)⟩
def oT (h:ap w bj q)(hb:bj<=w.heap.size)(hr:q.pure.L8.Pairwise (λx y=>x.id<y.id))(hx:q.L8[n]? =o_ x)(hn:0<=q.next/\q.next<=1000000000):k_ J3 138 #[a_ q.cells,i_ j_ n] w (jH w bj q {q.pure with next:=q.next+1,L8:=ce x.id (λy=>{y with RU:=q.next}) q.pure.L8}):=by
 refine(qG q n bj x w h hb hx hn).mono ?_;rintro e w' ⟨q2,rfl,rfl,ho,-,hk⟩;exact⟨_,rfl,g7 hr hx (f:=λy=>{y with RU:=q.next}) rfl,yr.of ho hk (nT hx rfl)⟩
def Fr.kB {j:Nat}{v:v_}(h:Fr w M bj q0 z q W)(hx:q.L8[n]? =o_ x)(ha:q.aN=o_ ⟨gs,0,n_⟩)(hy:y.prog=x.prog/\y.aY=x.aY/\y.bH=x.bH)(hj:j<12)
  (hv:bg.vals y=(bg.vals x).set j v):
  Fr w M bj q0 z ({q with L8:=q.L8.set n y}:af) (W.setCell ⟨gs,n*12+j,n_⟩ v)/\(∀X,w.heap.size<=X->X<M->(W.setCell ⟨gs,n*12+j,n_⟩ v).heap[X]? =W.heap[X]?)/\(∃u,W.cell? ⟨gs,n*12+j,n_⟩=o_ u)/\W.frozen? ⟨gs,n*12+j,n_⟩=false:=by
 have h1:(bg.vals y)[j]? =o_ v:=by rw[hv,LU Zd3]
 have h2:∀r,r<12->r≠j->(bg.vals y)[r]? =(bg.vals x)[r]?:=λr _ hr=>by rw[hv,List.getElem?_set_ne zw]
 have h3:=h.own.kB (n:=n) (j:=j) (x:=x) (y:=y) (vs:=[v]) hx ha hy ZbI (λr hr=>by simp at hr;subst hr;rw[PT,h1];rfl) (λr hr hn=>h2 r hr (by simp at hn;omega));have hg:gs∈q.Mc:=tN ha;have hs:∀X,w.heap.size<=X->X<M->(W.setCell ⟨gs,n*12+j,n_⟩ v).heap[X]? =W.heap[X]?:=λX a b=>aH λe=>h.yO a b (e▸hg)
 have hc:(∃u,W.cell? ⟨gs,n*12+j,n_⟩=o_ u)/\W.frozen? ⟨gs,n*12+j,n_⟩=false:=by
  obtain⟨g,hg,hrow⟩:=bl.fX (K:=bg) h.own.L8 ZdS;exact ZaN
 exact ⟨⟨(hs _ (Ki _) h.sz.1).trans h.box,h3.1,⟨h.kept.os,h.kept.tape,h.kept.output,by simpa [World.setCell] using h.kept.size,fun g a b=>(aH λe=>by
  rcases h.far gs hg with c|c
  .exact b (e▸c)
  .have:=h.sz;omega).trans (h.kept.same g a b)⟩,λg hg=>h.far g (h3.2.2▸hg),h.lo,h.sz.1,by simpa[World.setCell]using h.sz.2.1,h.sz.2.2⟩,hs,hc⟩
def pm {k:Int}{f g:aD->aD}(hf:∀y,(f y).id=y.id)(l:List aD):ce k g (ce k f l)=ce k (λy=>g (f y)) l:=by
 unfold ce;rw[Lv];refine Lw λz _=>?_
 simp only[Ls];by_cases e:z.id=k
 .rw [if_pos e,if_pos e,if_pos (by rw[hf];exact e)]
 .rw [if_neg e,if_neg e,if_neg e]
def us {nx:Int}(hr:q.pure.L8.Pairwise (λx y=>x.id<y.id))(hx:q.L8[n]? =o_ x)(hy:y.id=x.id):({q with next:=nx,L8:=q.L8.set n y}:af).pure.L8.Pairwise (λx y=>x.id<y.id):=by
 rw[g7 (f:=λz=>{y.toaD with id:=z.id}) hr hx (by show y.toaD={y.toaD with id:=x.id};rw[<-hy])];refine rW (f:=λz=>{y.toaD with id:=z.id}) ?_ hr;intro _;rfl
def Hi (hx:q.L8[n]? =o_ x):({q with L8:=q.L8.set n x}:af)=q:=by
 have hn:=(Lj.1 hx).1;have e:q.L8.set n x=q.L8:=by
  rw[<-(Lj.1 hx).2];simp
 rw[e]
def Fr.again {j:Nat}{v:v_}(h:Fr w M bj q0 z {q with L8:=q.L8.set n x} W)(hn:n<q.L8.length)(ha:q.aN=o_ ⟨gs,0,n_⟩)(hy:y.prog=x.prog/\y.aY=x.aY/\y.bH=x.bH)(hj:j<12)(hv:bg.vals y=(bg.vals x).set j v):
  Fr w M bj q0 z ({q with L8:=q.L8.set n y}:af) (W.setCell ⟨gs,n*12+j,n_⟩ v)/\(∀X,w.heap.size<=X->X<M->(W.setCell ⟨gs,n*12+j,n_⟩ v).heap[X]? =W.heap[X]?)/\(∃u,W.cell? ⟨gs,n*12+j,n_⟩=o_ u)/\W.frozen? ⟨gs,n*12+j,n_⟩=false:=by
 have h1:=h.kB (n:=n) (y:=y) (x:=x) (j:=j) (v:=v) (by show(q.L8.set n x)[n]? =_;rw[LU hn]) ha hy hj hv;simpa only[PV]using h1
end
def j9 (o:dN):Array v_:=#[i_ j_ o.1,i_ j_ o.2.1,i_ j_ o.2.2.1,t_ o.2.2.2]
def oo (W:w_)(X:Nat)(o:dN):Prop:=W.heap[X]? =o_ (c_ (j9 o) 217)
def oo.cells {W:w_}{X:Nat}{o:dN}(h:oo W X o):W.cell? ⟨X,0,n_⟩=o_ (i_ j_ o.1)/\W.cell? ⟨X,1,n_⟩=o_ (i_ j_ o.2.1)/\W.cell? ⟨X,2,n_⟩=o_ (i_ j_ o.2.2.1)/\W.cell? ⟨X,3,n_⟩=o_ (t_ o.2.2.2):=by
 unfold oo at h;simp[World.cell?,h,j9]
structure Xf (w:w_)(bj:Nat)(q0 z q:af)(o:dN)(W:w_):Prop where
 fr:Fr w (w.heap.size+3) bj q0 z q W
 op:oo W (w.heap.size+1) o
 an:W.heap[w.heap.size+2]? =o_ (c_ ar 46)
section
variable {w W W2:w_}{bj:Nat}{q0 z q q2:af}{o:dN}
def Xf.start (h:ap w bj q)(hb:bj<=w.heap.size):Xf w bj q q q o (((w.alloc (c_ q.cells 46)).alloc (c_ (j9 o) 217)).alloc (c_ ar 46)):=by
 have h3:=dR w (c_ q.cells 46) (c_ (j9 o) 217) (c_ ar 46);exact⟨Fr.start h hb h3.1 (fg _ _ _ _) ⟨zw,by rw[h3.2.2.2];omega⟩,h3.2.1,h3.2.2.1⟩
def Xf.call (h:Xf w bj q0 z q o W)(ht:yr W bj q q2 W2):Xf w bj q0 z q2 o W2:=by
 have h5:=h.fr.call ht;exact⟨h5.1,(h5.2 _ zw zw).trans h.op,(h5.2 _ zw zw).trans h.an⟩
def Xf.reads (h:Xf w bj q0 z q o W)(hb:B_ W.heap.size W W2):Xf w bj q0 z q o W2:=by
 have h5:=h.fr.reads hb;exact⟨h5.1,(h5.2 _ zw).trans h.op,(h5.2 _ zw).trans h.an⟩
def Xf.put (h:Xf w bj q0 z q o W):Xf w bj q0 q q o (W.setRow w.heap.size q.cells):=⟨h.fr.put,(KH _ _ _ _ zw).trans h.op,(KH _ _ _ _ zw).trans h.an⟩
def Xf.done (h:Xf w bj q0 z q o W)(cs:Array v_):yr w bj q0 q (W.setRow (w.heap.size+2) cs):=h.fr.mK zw zw cs
def Xf.again {n gs j:Nat}{x y:ao}{v:v_}(h:Xf w bj q0 z {q with L8:=q.L8.set n x} o W)(hn:n<q.L8.length)(ha:q.aN=o_ ⟨gs,0,n_⟩)(hy:y.prog=x.prog/\y.aY=x.aY/\y.bH=x.bH)(hj:j<12)(hv:bg.vals y=(bg.vals x).set j v):
  Xf w bj q0 z ({q with L8:=q.L8.set n y}:af) o (W.setCell ⟨gs,n*12+j,n_⟩ v)/\(∃u,W.cell? ⟨gs,n*12+j,n_⟩=o_ u)/\W.frozen? ⟨gs,n*12+j,n_⟩=false:=by
 have h5:=h.fr.again hn ha hy hj hv;exact⟨⟨h5.1,(h5.2.1 _ zw zw).trans h.op,(h5.2.1 _ zw zw).trans h.an⟩,h5.2.2⟩
def Xf.low (h:Xf w bj q0 z q o W):bj<=W.heap.size:=by have:=h.fr.sz;omega
def Xf.m2 {gs:Nat}(h:Xf w bj q0 z q o W)(ha:z.aN=o_ ⟨gs,0,n_⟩):W.cell? ⟨w.heap.size,2,n_⟩=o_ (s_ (o_ ⟨gs,0,n_⟩) z.L8.length z.aW):=by rw[<-ha];exact h.fr.box.cells.2.2.1
end
end
section
open Go.Maps
attribute [local go_sem ↓] Kc Kd
def sT (q:af)(n bj:Nat)(x:ao)(st on wait bE:Int)(held:ByteArray)(w:w_)(h:ap w bj q)(hb:bj<=w.heap.size)(hr:aQ q.pure)(hx:q.L8[n]? =o_ x)(hn:q.next<=1000000000)(eu:0<=bE/\bE<=1000000000)(hw: -1<=wait/\wait<=1000):
  k_ J3 183 #[a_ q.cells,i_ j_ n,i_ j_ st,i_ j_ on,t_ held,i_ j_ wait,i_ j_ bE] w (jH w bj q (kC st on held (kZ bE wait) x.id q.pure)):=by
 obtain⟨gs,ha,-⟩:=cn h.at.1 hx;have hnl:n<q.L8.length:=(Lj.1 hx).1;have b1:=dT w (c_ q.cells 46) (c_ ar 46);have h2:=cZ w (c_ q.cells 46) (c_ ar 46);have S:da (Fr w (w.heap.size+2) bj q q ({q with L8:=q.L8.set n x}:af) ((w.alloc (c_ q.cells 46)).alloc (c_ ar 46))/\((w.alloc (c_ q.cells 46)).alloc (c_ ar 46)).heap[w.heap.size+1]? =o_ (c_ ar 46)):=⟨by rw[Hi hx];exact Fr.start h hb h2.1 b1 ⟨zw,by have:=(J2.1 h2.2).1;omega⟩,h2.2⟩
 have j0:(0:Int)<=(n:Int):=zw
 have j1:(n:Int)<(q.L8.length:Int):=zw
 have HR:da (aQ q.pure/\(0<=q.next/\q.next<=1000000000)/\q.L8[n]? =o_ x/\n<q.L8.length/\q.aN=o_ ⟨gs,0,n_⟩):=⟨hr,⟨by have h5:=bz.1 hr.next;have:q.pure.next=q.next:=rfl;omega,hn⟩,hx,hnl,ha⟩
 obtain⟨n0,n1⟩:=eu;obtain⟨w0,w1⟩:=hw;clear h hb hr hx hn b1 h2 ha hnl
 go_enter func183,ntmps183
 go_upto_region 1 with fail;generalize(w.alloc (c_ q.cells 46)).alloc (c_ ar 46)=A at*;have m:=S.I.1.box.cells.2.2.1;rw[HR.I.2.2.2.2]at m;obtain⟨s,k,⟨u,c⟩,f⟩:=S.I.1.again (y:={x with Md:=st}) (j:=3) (v:=i_ j_ st) HR.I.2.2.2.1 HR.I.2.2.2.2 ⟨rfl,rfl,rfl⟩ (by decide) rfl;replace S:=aA (And.intro s ((k _ zw zw).trans S.I.2));clear s k;go_upto_region 2 with fail;generalize A.setCell ⟨gs,n*12+3,n_⟩ (i_ j_ st)=A at*;clear m c f u;have m:=S.I.1.box.cells.2.2.1;rw[HR.I.2.2.2.2]at m;obtain⟨s,k,⟨u,c⟩,f⟩:=S.I.1.again (y:={x with Md:=st,on:=on}) (j:=7) (v:=i_ j_ on) HR.I.2.2.2.1 HR.I.2.2.2.2 ⟨rfl,rfl,rfl⟩ (by decide) rfl;replace S:=aA (And.intro s ((k _ zw zw).trans S.I.2));clear s k;go_upto_region 3 with fail;generalize A.setCell ⟨gs,n*12+7,n_⟩ (i_ j_ on)=A at*;clear m c f u;have m:=S.I.1.box.cells.2.2.1;rw[HR.I.2.2.2.2]at m;obtain⟨s,k,⟨u,c⟩,f⟩:=S.I.1.again (y:={x with Md:=st,on:=on,held:=held}) (j:=8) (v:=t_ held) HR.I.2.2.2.1 HR.I.2.2.2.2 ⟨rfl,rfl,rfl⟩ (by decide) rfl;replace S:=aA (And.intro s ((k _ zw zw).trans S.I.2));clear s k;go_upto_region 4 with fail;generalize A.setCell ⟨gs,n*12+8,n_⟩ (t_ held)=A at*;clear m c f u;have m:=S.I.1.box.cells.2.2.1;rw[HR.I.2.2.2.2]at m;obtain⟨s,k,⟨u,c⟩,f⟩:=S.I.1.again (y:={x with Md:=st,on:=on,held:=held,Mg:= -1}) (j:=6) (v:=i_ j_ (-1)) HR.I.2.2.2.1 HR.I.2.2.2.2 ⟨rfl,rfl,rfl⟩ (by decide) rfl;replace S:=aA (And.intro s ((k _ zw zw).trans S.I.2));clear s k;go_upto_region 5 with fail;generalize A.setCell ⟨gs,n*12+6,n_⟩ (i_ j_ (-1))=A at*;clear m c f u;by_cases FN:0<=wait
 .have af6:decide (wait>=0)=true:=decide_eq_true FN
  have m:=S.I.1.box.cells.2.2.1;rw[HR.I.2.2.2.2]at m;obtain⟨s,k,⟨u,c⟩,f⟩:=S.I.1.again (y:={x with Md:=st,on:=on,held:=held,Mg:=bE+wait}) (j:=6) (v:=i_ j_ (bE+wait)) HR.I.2.2.2.1 HR.I.2.2.2.2 ⟨rfl,rfl,rfl⟩ (by decide) rfl;replace S:=aA (And.intro s ((k _ zw zw).trans S.I.2));clear s k;go_upto_region 7 with fail;generalize A.setCell ⟨gs,n*12+6,n_⟩ (i_ j_ (bE+wait))=A at*;clear m c f u;have hp:({q with L8:=q.L8.set n {x with Md:=st,on:=on,held:=held,Mg:=bE+wait}}:af).pure=_:=g7 (nx:=q.next) (f:=λy=>{y with Md:=st,on:=on,held:=held,Mg:=bE+wait}) HR.I.1.kW HR.I.2.2.1 rfl;have Mb:=oT (n:=n) (x:={x with Md:=st,on:=on,held:=held,Mg:=bE+wait}) S.I.1.own ZbU (us HR.I.1.kW HR.I.2.2.1 rfl) ZeS HR.I.2.1;rw[jd (nx:=q.next),hp]at Mb;have HE:da ({q.pure with next:=q.next+1,L8:=ce x.id (λy=>{y with RU:=q.next}) (ce x.id (λy=>{y with Md:=st,on:=on,held:=held,Mg:=bE+wait}) q.pure.L8)}=kC st on held (kZ bE wait) x.id q.pure):=by show _=kC st on held (kZ bE wait) x.id q.pure;rw[pm (by intro _;rfl)];unfold kZ;rw[if_pos FN];rfl
  exact z_
 .have af6:decide (wait>=0)=false:=decide_eq_false FN
  go_upto_region 7 with fail;have hp:({q with L8:=q.L8.set n {x with Md:=st,on:=on,held:=held,Mg:= -1}}:af).pure=_:=g7 (nx:=q.next) (f:=λy=>{y with Md:=st,on:=on,held:=held,Mg:= -1}) HR.I.1.kW HR.I.2.2.1 rfl;have Mb:=oT (n:=n) (x:={x with Md:=st,on:=on,held:=held,Mg:= -1}) S.I.1.own ZbU (us HR.I.1.kW HR.I.2.2.1 rfl) ZeS HR.I.2.1;rw[jd (nx:=q.next),hp]at Mb;have HE:da ({q.pure with next:=q.next+1,L8:=ce x.id (λy=>{y with RU:=q.next}) (ce x.id (λy=>{y with Md:=st,on:=on,held:=held,Mg:= -1}) q.pure.L8)}=kC st on held (kZ bE wait) x.id q.pure):=by show _=kC st on held (kZ bE wait) x.id q.pure;rw[pm (by intro _;rfl)];unfold kZ;rw[if_neg FN];rfl
  exact z_
end
section
def lJ {α β:Type}{num:β->Int}{je:α->Int}{g:α->β}(hg:∀x,num (g x)=je x){id:Int}:∀(l:List α),cg num id (l.map g)=(cg je id l).map g
 |[]=>rfl
 |x::r=>by
  have h:=lJ hg (id:=id) r;unfold cg at h⊢;simp only[Lt,List.find?_cons,hg]
  split
  .rfl
  .exact h
section
variable {W:w_}{bj n j gs:Nat}{q:af}{v:v_}
def gD {q:af}{g:Nat}(h:g∈blk q.aN\/g∈blk q.bc\/g∈blk q.ay\/g∈blk q.ax\/g∈blk q.am\/g∈blk q.aK):g∈q.Mc:=by
 simp only[af.Mc,Kg];rcases h with h|h|h|h|h|h<;>simp[h]
def uR {x y:bD}(h:ap W bj q)(hx:q.aj[n]? =o_ x)(ha:q.bc=o_ ⟨gs,0,n_⟩)(hj:j<3)(hv:dm.vals y=(dm.vals x).set j v):
  yr W bj q ({q with aj:=q.aj.set n y}:af) (W.setCell ⟨gs,n*3+j,n_⟩ v)/\(∃u,W.cell? ⟨gs,n*3+j,n_⟩=o_ u)/\W.frozen? ⟨gs,n*3+j,n_⟩=false:=by
 obtain⟨h1,h2,h3⟩:=rn (K:=dm) h.aj hx ha hj hv;obtain⟨h4,h5⟩:=h.DT h1 zy h2;exact⟨⟨h4,h2.mono λg hg=>gD (.inr (.inl hg)),λg hg=>.inl (h5▸hg)⟩,h3⟩
def rv {x y:aB}(h:ap W bj q)(hx:q.L9[n]? =o_ x)(ha:q.ay=o_ ⟨gs,0,n_⟩)(hj:j<2)(hv:bJ.vals y=(bJ.vals x).set j v):
  yr W bj q ({q with L9:=q.L9.set n y}:af) (W.setCell ⟨gs,n*2+j,n_⟩ v)/\(∃u,W.cell? ⟨gs,n*2+j,n_⟩=o_ u)/\W.frozen? ⟨gs,n*2+j,n_⟩=false:=by
 obtain⟨h1,h2,h3⟩:=rn (K:=bJ) h.L9 hx ha hj hv;obtain⟨h4,h5⟩:=h.xA h1 zy h2;exact⟨⟨h4,h2.mono λg hg=>gD (.inr (.inr (.inl hg))),λg hg=>.inl (h5▸hg)⟩,h3⟩
def ll {x y:az}(h:ap W bj q)(hx:q.ag[n]? =o_ x)(ha:q.ax=o_ ⟨gs,0,n_⟩)(hj:j<3)(hv:bG.vals y=(bG.vals x).set j v):
  yr W bj q ({q with ag:=q.ag.set n y}:af) (W.setCell ⟨gs,n*3+j,n_⟩ v)/\(∃u,W.cell? ⟨gs,n*3+j,n_⟩=o_ u)/\W.frozen? ⟨gs,n*3+j,n_⟩=false:=by
 obtain⟨h1,h2,h3⟩:=rn (K:=bG) h.ag hx ha hj hv;obtain⟨h4,h5⟩:=h.xM h1 zy h2;exact⟨⟨h4,h2.mono λg hg=>gD (.inr (.inr (.inr (.inl hg)))),λg hg=>.inl (h5▸hg)⟩,h3⟩
def pp {st on i:Int}(h:dO (λx:aD=>decide (x.Md=st)&&decide (x.on=on)) q.pure.L8 q.L8.length i):(i<0/\jl st on q.pure.L8=n_)\/ ∃(m:Nat)(y:ao),i=m/\q.L8[m]? =o_ y/\jl st on q.pure.L8=o_ y.toaD:=by
 have hl:q.L8.length=q.pure.L8.length:=ZdN
 by_cases hi:i<0
 .refine .inl ⟨hi,?_⟩
  unfold dO at h;rw[hl,LQ]at h;unfold jl
  split at h
  .assumption
  .obtain ⟨k,hk,-⟩:=h
   omega
 .obtain ⟨k,y,h1,h2,h3,h4⟩:=h.got hi
  rw[hl,LQ]at h4;have h5:(q.L8.map (·.toaD))[k]? =o_ y:=h3;rw[Kk,Kw]at h5;obtain⟨z,hz,rfl⟩:=h5;exact .inr ⟨k,z,h1,hz,h4⟩
def eY {x y:ao}(h:ap W bj q)(hx:q.L8[n]? =o_ x)(ha:q.aN=o_ ⟨gs,0,n_⟩)(hy:y.prog=x.prog/\y.aY=x.aY/\y.bH=x.bH)(hj:j<12)(hv:bg.vals y=(bg.vals x).set j v):
  yr W bj q ({q with L8:=q.L8.set n y}:af) (W.setCell ⟨gs,n*12+j,n_⟩ v)/\(∃u,W.cell? ⟨gs,n*12+j,n_⟩=o_ u)/\W.frozen? ⟨gs,n*12+j,n_⟩=false:=by
 have h3:=h.kB (n:=n) (j:=j) (x:=x) (y:=y) (vs:=[v]) hx ha hy ZbI (λr hr=>by simp at hr;subst hr;rw[PT,hv,LU Zd3];rfl) (λr hr hn=>ZeU);refine⟨⟨h3.1,h3.2.1.mono λg hg=>?_,λg hg=>.inl (h3.2.2▸hg)⟩,?_⟩
 .simp only[Kt,Ku,or_false]at hg
  rw[hg];exact tN ha
 .obtain ⟨g,hg,hrow⟩:=bl.fX (K:=bg) h.L8 ZdS
  exact ZaN
def sy (x:ao):Array v_:=#[i_ j_ x.id,i_ j_ x.RX,s_ x.aY x.prog.length x.bH,i_ j_ 0,i_ j_ 0,i_ j_ 0,i_ j_ 0,i_ j_ 0,t_ ⟨#[]⟩,t_ x.got,i_ j_ x.code,i_ j_ 0]
def GC {x:ao}(h:ap W bj q)(hx:q.L8[n]? =o_ x)(ha:q.aN=o_ ⟨gs,0,n_⟩):W.there gs (n*12) 12/\yr W bj q ({q with L8:=q.L8.set n (sW x)}:af) (W.setCells gs (n*12) (sy x).toList):=by
 constructor
 .obtain ⟨g,hg,hrow⟩:=bl.fX (K:=bg) h.L8 ZdS
  exact Zab
 .have hv:(sy x).toList=bg.vals (sW x):=rfl
  have h3:=h.kB (n:=n) (j:=0) (x:=x) (y:=sW x) (vs:=(sy x).toList) hx ha ⟨rfl,rfl,rfl⟩ (by show 0+12<=12;omega) (λr _=>by rw[Li,hv]) (λr hr hn=>absurd ⟨Ky _,by show r<0+12;omega⟩ hn);rw[PT,<-iL]at h3;refine⟨h3.1,h3.2.1.mono λg hg=>?_,λg hg=>.inl (h3.2.2▸hg)⟩;simp only[Kt,Ku,or_false]at hg;rw[hg];exact tN ha
def kg {x:ao}{t:ByteArray}(hr:aQ q.pure)(hx:q.L8[n]? =o_ x)(ht:bw t=true):
  ∃q1:af,q1={q with L8:=q.L8.set n {x with got:=t}}/\q1.pure=ez t x.id q.pure/\q1.cells=q.cells/\aQ q1.pure/\q1.L8[n]? =o_ {x with got:=t}:=
 ⟨_,rfl,g7 (nx:=q.next) hr.kW hx rfl,jd (nx:=q.next),by rw[show({q with L8:=q.L8.set n {x with got:=t}}:af).pure=ez t x.id q.pure from g7 (nx:=q.next) hr.kW hx rfl];exact iQ hr ht,by show(q.L8.set n _)[n]? =_;rw[LU (Lj.1 hx).1]⟩
def Bz {p:aE}{v:aD}{t:ByteArray}:gF (λy=>y) (ez t v.id p) (lG t v)=gF (lG t) p v:=by
 unfold gF ez
 show({p with next:=gf p.next v,L8:=ce v.id (λy=>iY p.next 0 y) (ce v.id (lG t) p.L8)}:aE)=_
 rw[pm (f:=lG t) (λ_=>rfl)]
def Xf.sync {w:w_}{q0 z q1:af}{o:dN}(h:Xf w bj q0 z q o W)(hc:q1.cells=z.cells):Xf w bj q0 q1 q o W:=⟨⟨by have h5:=h.fr.box;unfold av at h5⊢;exact h5.trans (congrArg (λc=>o_ (Obj.cells c 46 (0,0))) hc.symm),h.fr.own,h.fr.kept,h.fr.far,h.fr.lo,h.fr.sz⟩,h.op,h.an⟩
def tQ {y:aD}(h:q.pure.L8[n]? =o_ y):∃x,q.L8[n]? =o_ x/\x.toaD=y:=by
 have h5:(q.L8.map (·.toaD))[n]? =o_ y:=h;rw[Kk,Kw]at h5;exact h5
def Gc {p:aE}{x y:aD}(h:aQ p)(hx:x∈p.L8)(hy:y∈p.L8)(e:y.id=x.id):y=x:=by
 have h5:=h.kW;rw[P8]at h5;obtain⟨i,hi1,rfl⟩:=LK.1 hy;obtain⟨j,DS,rfl⟩:=LK.1 hx;rcases P9 i j with hlt|heq|hgt
 .have:=h5 i j hi1 DS hlt;omega
 .subst heq;rfl
 .have:=h5 j i DS hi1 hgt;omega
def ym {l:List aD}{k:Int}{f:aD->aD}{x:aD}(h:l[n]? =o_ x)(hne:¬x.id=k):(ce k f l)[n]? =o_ x:=by
 unfold ce;rw[Kk,h];simp[hne]
def qp {q2:af}{m:Nat}{x v:ao}{f:aD->aD}(hr:aQ q.pure)(hx:q.L8[n]? =o_ x)(hs:x.Md=1)(hv:q.L8[m]? =o_ v)(h1:¬v.Md=1)(h0:¬v.Md=0)(hf:f=(λy=>y)\/ ∃t,bw t=true/\f=lG t)(hn:q.next+1<=1000000000)(hp:q2.pure=gF f q.pure v.toaD):
  aQ q2.pure/\∃x2,q2.L8[n]? =o_ x2/\x2.toaD=x.toaD:=by
 refine⟨by rw[hp];exact i9 hr (iu hv) h0 hf hn,tQ ?_⟩;rw[hp];refine ym (mj hx) λe=>h1 ?_
 have:=Gc hr (iu hv) (iu hx) e
 have h2:x.toaD.Md=1:=hs;rw[this]at h2;exact h2
end
end
section
open Go.Maps
attribute [local go_sem ↓] Kc Kd
def oR (q:af)(n bj:Nat)(x:ao)(st bE:Int)(o:dN)(w:w_)(h:ap w bj q)(hb:bj<=w.heap.size)(hr:aQ q.pure)(hx:q.L8[n]? =o_ x)(h0:¬x.Md=0)(hn:q.next<=1000000000)(eu:0<=bE/\bE<=1000000000)(hw: -1<=o.2.2.1/\o.2.2.1<=1000):
  k_ J3 190 #[a_ q.cells,i_ j_ n,i_ j_ st,a_ (j9 o),i_ j_ bE] w (jH w bj q (mX st o bE x.id q.pure)):=by
 have S:=aA (Xf.start (o:=o) h hb);clear h hb
 go_enter func190,ntmps190
 go_upto_region 1 with fail;generalize((w.alloc (c_ q.cells 46)).alloc (c_ (j9 o) 217)).alloc (c_ ar 46)=A at*;obtain⟨-,o1,o2,o3⟩:=S.I.op.cells;by_cases hz:o.2.2.1=0
 .have HE:da (mX st o bE x.id q.pure=bu 1 x.id q.pure):=if_pos hz
  have e2:(o.2.2.1==0)=true:=Zen
  have Mb:=bB (n:=n) 1 S.I.fr.own S.I.low hr hx h0;exact Zbm
 .have HE:da (mX st o bE x.id q.pure=kC st o.2.1 o.2.2.2 (kZ bE o.2.2.1) x.id q.pure):=if_neg hz
  have e2:(o.2.2.1==0)=false:=Zen
  have Mb:=sT q n bj x st o.2.1 o.2.2.1 bE o.2.2.2 A S.I.fr.own S.I.low hr hx hn eu hw;exact Zbm
def dW {q:af}(h:aQ q.pure):q.L8.length<=6/\q.aj.length<=5/\q.L9.length<=5/\q.ag.length<=5/\q.ae.length<=5/\q.ai.length<=5:=by
 have h1:=h.dl;have h2:=h.cb;have h3:=h.dH;simp only[af.pure,KG]at h1 h2 h3;exact⟨h1,h.fx,h.cD,h.cC,h2,h3⟩
def aq4 (F:FuncId)(k:Int)(P:dN->Int->Int->aE->aE):Prop:=∀(q:af)(n bj:Nat)(x:ao)(bE:Int)(o:dN)(w:w_),ap w bj q->bj<=w.heap.size->aQ q.pure->q.L8[n]? =o_ x->x.Md=1->q.next<=999999990->(0<=bE/\bE<=1000000000)->kc o=true->o.1=k->
  k_ J3 F #[a_ q.cells,i_ j_ n,a_ (j9 o),i_ j_ bE] w (jH w bj q (P o bE x.id q.pure))
def aqf {F:FuncId} {k:Int} {P:dN->Int->Int->aE->aE} (H:∀(q:af)(n bj:Nat)(x:ao)(bE N M:Int)(s:ByteArray)(w:w_),(¬k=17->1<=N/\N<=1000)->bw s=true->(¬k=8->¬k=10->¬k=13->bI s=true)->da (aQ q.pure/\q.L8[n]? =o_ x/\x.Md=1/\q.next<=999999990/\(0<=bE/\bE<=1000000000)/\(-1<=M/\M<=1000))->da (q.L8.length<=6/\q.aj.length<=5/\q.L9.length<=5/\q.ag.length<=5/\q.ae.length<=5/\q.ai.length<=5)->
  da (Xf w bj q q q (k,N,M,s) (((w.alloc (c_ q.cells 46)).alloc (c_ (j9 (k,N,M,s)) 217)).alloc (c_ ar 46)))->k_ J3 F #[a_ q.cells,i_ j_ n,a_ (j9 (k,N,M,s)),i_ j_ bE] w (jH w bj q (P (k,N,M,s) bE x.id q.pure))):aq4 F k P:=by
 intro q n bj x bE o w h hb hr hx hs hn eu ho hk;obtain⟨-,f1,f2,f3,f4⟩:=dv ho;obtain⟨k,N,M,s⟩:=o;subst hk;exact H q n bj x bE N M s w f1 f3 f4 ⟨hr,hx,hs,hn,eu,bz.1 f2⟩ (dW hr) (Xf.start h hb)
def arv (F:FuncId)(k:Int)(P:dN->Int->aE->aE):Prop:=∀(q:af)(n bj:Nat)(x:ao)(o:dN)(w:w_),ap w bj q->bj<=w.heap.size->aQ q.pure->q.L8[n]? =o_ x->x.Md=1->q.next<=999999990->kc o=true->o.1=k->
  k_ J3 F #[a_ q.cells,i_ j_ n,a_ (j9 o)] w (jH w bj q (P o x.id q.pure))
def aqQ {F:FuncId} {k:Int} {P:dN->Int->aE->aE} (H:∀(q:af)(n bj:Nat)(x:ao)(N M:Int)(s:ByteArray)(w:w_),(¬k=17->1<=N/\N<=1000)->bw s=true->(¬k=8->¬k=10->¬k=13->bI s=true)->da (aQ q.pure/\q.L8[n]? =o_ x/\x.Md=1/\q.next<=999999990/\(-1<=M/\M<=1000))->da (q.L8.length<=6/\q.aj.length<=5/\q.L9.length<=5/\q.ag.length<=5/\q.ae.length<=5/\q.ai.length<=5)->
  da (Xf w bj q q q (k,N,M,s) (((w.alloc (c_ q.cells 46)).alloc (c_ (j9 (k,N,M,s)) 217)).alloc (c_ ar 46)))->k_ J3 F #[a_ q.cells,i_ j_ n,a_ (j9 (k,N,M,s))] w (jH w bj q (P (k,N,M,s) x.id q.pure))):arv F k P:=by
 intro q n bj x o w h hb hr hx hs hn ho hk;obtain⟨-,f1,f2,f3,f4⟩:=dv ho;obtain⟨k,N,M,s⟩:=o;subst hk;exact H q n bj x N M s w f1 f3 f4 ⟨hr,hx,hs,hn,bz.1 f2⟩ (dW hr) (Xf.start h hb)
def DP {p:aE}{y:bD}(h:aQ p)(hy:y∈p.aj):y.max<=1000:=by
 have h1:=(cK h.aj y hy).2;unfold gw at h1;simp only[J7]at h1;exact(bz.1 h1.1).2
def CR:aq4 184 3 mh:=by
 refine aqf λq n bj x bE N M s w f1 f3 f4 HR HF S=>?_
 go_enter func184,ntmps184
 go_upto_region 1 with fail;generalize((w.alloc (c_ q.cells 46)).alloc (c_ (j9 (3,N,M,s)) 217)).alloc (c_ ar 46)=A at*;obtain⟨-,o1,-,-⟩:=S.I.op.cells;simp only at o1;have hpf:=ef (num:=λx:bD=>x.id) N q.aj 0;have Mb:=lw q N A ZbX S.I.fr.own.at;generalize place (q.aj.map (λx=>x.id)) N 0=z at*;go_wp2_with(refine eT _ S.I.fr.box ?_);refine Mb.mono ?_;clear Mb;rintro e A2 ⟨rfl,hb2⟩;replace S:=aA (S.I.reads hb2);clear hb2;clear o1;obtain⟨o0,-,-,-⟩:=S.I.op.cells;simp only at o0;rcases hpf with⟨hz,hf⟩|⟨m,y,hz,hm,hid,hf⟩
 .subst hz
  have HE:da (mh (3,N,M,s) bE x.id q.pure=bu 3 x.id q.pure):=by show mh (3,N,M,s) bE x.id q.pure=_;unfold mh;rw[show cg (λx:bD=>x.id) N q.pure.aj=n_ from hf]
  exact Zbj
 rw[Li]at hz;subst hz;have afO:decide ((m:Int)<0)=false:=decide_eq_false zw;have HM:da (q.aj[m]? =o_ y/\y.id=N/\cg (λx:bD=>x.id) N q.aj=o_ y):=⟨hm,hid,hf⟩
 have hml:=(Lj.1 hm).1;have j0:(0:Int)<=(m:Int):=zw
 have j1:(m:Int)<(q.aj.length:Int):=zw
 obtain⟨Y5,iE,hat⟩:=lQ S.I.fr.own.at.2.1 hm;have m3:=S.I.fr.box.cells.2.2.2.1;rw[iE]at m3;have d1:=hat.2.1;have HG:da (q.bc=o_ ⟨Y5,0,n_⟩):=iE;clear hm hid hf hml hat iE;by_cases hn0:y.n=0
 .have HE:da (mh (3,N,M,s) bE x.id q.pure=mX 3 (3,N,M,s) bE x.id q.pure):=by show mh (3,N,M,s) bE x.id q.pure=_;unfold mh;rw[show cg (λx:bD=>x.id) N q.pure.aj=o_ y from HM.I.2.2];exact if_pos hn0
  have e1:(y.n==0)=true:=by simp[hn0]
  have Mb:=oR q n bj x 3 bE (3,N,M,s) A2 S.I.fr.own S.I.low HR.I.1 HR.I.2.1 ZbQ Zde HR.I.2.2.2.2.1 HR.I.2.2.2.2.2;clear hn0;go_wp2_with(first|(refine eT _ S.I.fr.box ?_)|(refine LS rfl 217 (.tmp 6) rfl (w.heap.size+1) (by rfl) 217 (j9 (3,N,M,s)) (0,0) _ S.I.op underlying217 rfl ZbG ?_));exact gt
 have HE:da (mh (3,N,M,s) bE x.id q.pure=bu 0 x.id (nZ N (-1) q.pure)):=by show mh (3,N,M,s) bE x.id q.pure=_;unfold mh;rw[show cg (λx:bD=>x.id) N q.pure.aj=o_ y from HM.I.2.2];exact if_neg hn0
 have e1:(y.n==0)=false:=by simp[hn0]
 have HN:da (¬y.n=0):=hn0;clear hn0;go_upto_region 10 with fail;replace S:=aA (S.I.reads (Kp _ _).drew);refine eD (λw1=>w1=A2.drew) 12 ZbG rfl ?_;generalize A2.drew=B at*;clear m3 d1;have m3:=S.I.fr.box.cells.2.2.2.1;rw[HG.I]at m3;obtain⟨ga2,iE,hat⟩:=lQ S.I.fr.own.at.2.1 HM.I.1;rw[HG.I]at iE;cases iE;have d1:=hat.2.1;clear hat;obtain⟨s1,⟨u,c⟩,f⟩:=uR (n:=m) (j:=1) (v:=i_ j_ (y.n-1)) (y:={y with n:=y.n-1}) S.I.fr.own HM.I.1 HG.I (by decide) rfl;have hk:=pw (o:=(3,N,M,s)) HR.I.1 HM.I.2.2;have n0:=hk.2.1;have n1:=hk.2.2;have n2:y.max<=1000:=DP HR.I.1 (KA HM.I.1);clear hk;have hw:IntKind.wrap j_ (y.n-1)=y.n-1:=by rw[K8];have:=HN.I;omega
 replace S:=aA (S.I.call s1);clear s1
 iterate 12 (refine ly 13 (v:=?_) (o_ _) rfl rfl ZbG (λ_ _ _ h=>h) (bV ZbG ?_) ?_;rotate_left;(intro w0 hS0;subst hS0;go_simp;try with_reducible rfl);simp only[pt,sb,s0,s1])
 refine fL rfl ZbG ZbG ZbG ?_;intro w1 cm;rw[cm];clear cm w1
 go_simp
 generalize B.setCell ⟨Y5,m*3+1,n_⟩ (i_ j_ (y.n-1))=C at*;clear m3 d1 c f u;have hq:({q with aj:=q.aj.set m {y with n:=y.n-1}}:af).pure=nZ N (-1) q.pure:=by show({q.pure with aj:=q.aj.set m {y with n:=y.n-1}}:aE)=_;unfold nZ;rw[jF (num:=λx:bD=>x.id) (db HR.I.1.aj).2 HM.I.1 HM.I.2.1];rfl
 have hr2:aQ (nZ N (-1) q.pure):=mx HR.I.1 λz hz hk=>ZeQ
 rw[<-hq]at hr2;have Mb:=bB (n:=n) 0 S.I.fr.own S.I.low hr2 HR.I.2.1 ZbQ;rw[hq,show af.cells ({q with aj:=q.aj.set m {y with n:=y.n-1}}:af)=q.cells by unfold af.cells;simp]at Mb;clear hq hr2 n0 n1 n2 hw;exact Zbl
def zE:aq4 184 4 (λo _ id p=>gJ o id p):=by
 refine aqf λq n bj x bE N M s w f1 f3 f4 HR HF S=>?_
 go_enter func184,ntmps184
 go_upto_region 1 with fail;generalize((w.alloc (c_ q.cells 46)).alloc (c_ (j9 (4,N,M,s)) 217)).alloc (c_ ar 46)=A at*;obtain⟨-,o1,-,-⟩:=S.I.op.cells;simp only at o1;have hpf:=ef (num:=λx:bD=>x.id) N q.aj 0;have Mb:=lw q N A ZbX S.I.fr.own.at;generalize place (q.aj.map (λx=>x.id)) N 0=z at*;go_wp2_with(refine eT _ S.I.fr.box ?_);refine Mb.mono ?_;clear Mb;rintro e A2 ⟨rfl,hb2⟩;replace S:=aA (S.I.reads hb2);clear hb2;clear o1;obtain⟨o0,o1,-,-⟩:=S.I.op.cells;simp only at o0 o1;rcases hpf with⟨hz,hf⟩|⟨m,y,hz,hm,hid,hf⟩
 .subst hz
  have HE:da (gJ (4,N,M,s) x.id q.pure=bu 3 x.id q.pure):=by show gJ (4,N,M,s) x.id q.pure=_;unfold gJ;rw[show cg (λx:bD=>x.id) N q.pure.aj=n_ from hf]
  exact Zbj
 rw[Li]at hz;subst hz;have afO:decide ((m:Int)<0)=false:=decide_eq_false zw;have HM:da (q.aj[m]? =o_ y/\y.id=N/\cg (λx:bD=>x.id) N q.aj=o_ y):=⟨hm,hid,hf⟩
 have hml:=(Lj.1 hm).1;have j0:(0:Int)<=(m:Int):=zw
 have j1:(m:Int)<(q.aj.length:Int):=zw
 clear hm hid hf hml;have Mb:=ij q 3 N A2 ZbX S.I.fr.own.at;go_wp2_with(refine eT _ S.I.fr.box ?_);refine Mb.mono ?_;clear Mb o0 o1 afO;rintro e A3 ⟨⟨z,rfl,gV⟩,hb2⟩;replace S:=aA (S.I.reads hb2);clear hb2;rcases pp gV with⟨hz,hw⟩|⟨i,v,hz,hi,hw⟩
 .have HW:da (jl 3 N q.pure.L8=n_):=hw
  have afO:decide (z>=0)=false:=decide_eq_false zw;clear gV hz hw;obtain⟨Y5,iE,hat⟩:=lQ S.I.fr.own.at.2.1 HM.I.1;have m3:=S.I.fr.box.cells.2.2.2.1;rw[iE]at m3;have d1:=hat.2.1;have d2:=hat.2.2;have HG:da (q.bc=o_ ⟨Y5,0,n_⟩):=iE;clear hat iE;go_upto_region 15 with fail;clear afO;replace S:=aA (S.I.reads (Kp _ _).drew);refine aT (λw1=>w1=A3.drew) ZbG rfl ?_;generalize A3.drew=B at*;clear m3 d1 d2;have m3:=S.I.fr.box.cells.2.2.2.1;rw[HG.I]at m3;obtain⟨ga2,iE,hat⟩:=lQ S.I.fr.own.at.2.1 HM.I.1;rw[HG.I]at iE;cases iE;have d1:=hat.2.1;have d2:=hat.2.2;clear hat
  iterate 13 (refine agj ?_)
  refine bk ZbG ?_ _;intro w1 cm;rw[cm];clear cm w1;have HU:da (gJ (4,N,M,s) x.id q.pure=if y.n=y.max then bu 1 x.id q.pure else bu 0 x.id (nZ N 1 q.pure)):=by show gJ (4,N,M,s) x.id q.pure=_;unfold gJ;rw[show cg (λx:bD=>x.id) N q.pure.aj=o_ y from HM.I.2.2];dsimp only;rw[HW.I]
  by_cases hx0:y.n=y.max
  .have HE:da (gJ (4,N,M,s) x.id q.pure=bu 1 x.id q.pure):=HU.I.trans (if_pos hx0)
   have e1:(y.n==y.max)=true:=by simp[hx0]
   have Mb:=bB (n:=n) 1 S.I.fr.own S.I.low HR.I.1 HR.I.2.1 ZbQ;clear hx0 m3 d1 d2;exact Zbl
  have HE:da (gJ (4,N,M,s) x.id q.pure=bu 0 x.id (nZ N 1 q.pure)):=HU.I.trans (if_neg hx0);have e1:(y.n==y.max)=false:=by simp[hx0]
  have HN:da (¬y.n=y.max):=hx0;clear hx0 d2;go_upto_region 17 with fail;clear e1;replace S:=aA (S.I.reads (Kp _ _).drew);refine eD (λw1=>w1=B.drew) 12 ZbG rfl ?_;generalize B.drew=B2 at*;clear m3 d1;have m3:=S.I.fr.box.cells.2.2.2.1;rw[HG.I]at m3;obtain⟨ga2,iE,hat⟩:=lQ S.I.fr.own.at.2.1 HM.I.1;rw[HG.I]at iE;cases iE;have d1:=hat.2.1;clear hat;obtain⟨s1,⟨u,c⟩,f⟩:=uR (n:=m) (j:=1) (v:=i_ j_ (y.n+1)) (y:={y with n:=y.n+1}) S.I.fr.own HM.I.1 HG.I (by decide) rfl;have hk:=pw (o:=(4,N,M,s)) HR.I.1 HM.I.2.2;have n0:=hk.2.1;have n1:=hk.2.2;have n2:y.max<=1000:=DP HR.I.1 (KA HM.I.1);clear hk;have hw:IntKind.wrap j_ (y.n+1)=y.n+1:=by rw[K8];have:=HN.I;omega
  replace S:=aA (S.I.call s1);clear s1
  iterate 12 (refine ly 13 (v:=?_) (o_ _) rfl rfl ZbG (λ_ _ _ h=>h) (bV ZbG ?_) ?_;rotate_left;(intro w0 hS0;subst hS0;go_simp;try with_reducible rfl);simp only[pt,sb,s0,s1])
  refine fL rfl ZbG ZbG ZbG ?_;intro w1 cm;rw[cm];clear cm w1
  go_simp
  generalize B2.setCell ⟨Y5,m*3+1,n_⟩ (i_ j_ (y.n+1))=C at*;clear m3 d1 c f u;have hq:({q with aj:=q.aj.set m {y with n:=y.n+1}}:af).pure=nZ N (1) q.pure:=by show({q.pure with aj:=q.aj.set m {y with n:=y.n+1}}:aE)=_;unfold nZ;rw[jF (num:=λx:bD=>x.id) (db HR.I.1.aj).2 HM.I.1 HM.I.2.1];rfl
  have hr2:aQ (nZ N (1) q.pure):=mx HR.I.1 λz hz hk=>ZeQ
  rw[<-hq]at hr2;have Mb:=bB (n:=n) 0 S.I.fr.own S.I.low hr2 HR.I.2.1 ZbQ;rw[hq,show af.cells ({q with aj:=q.aj.set m {y with n:=y.n+1}}:af)=q.cells by unfold af.cells;simp]at Mb;clear hq hr2 n0 n1 n2 hw;exact Zbl
 have HW:da (jl 3 N q.pure.L8=o_ v.toaD/\q.L8[i]? =o_ v/\v.Md=3):=⟨hw,hi,(ft hw).2.1⟩
 subst hz;have afO:decide ((i:Int)>=0)=true:=decide_eq_true zw;have hnx:=HR.I.2.2.2.1;clear gV hw hi;have HE:da (gJ (4,N,M,s) x.id q.pure=bu 0 x.id (gF (λy=>y) q.pure v.toaD)):=by show gJ (4,N,M,s) x.id q.pure=_;unfold gJ;rw[show cg (λx:bD=>x.id) N q.pure.aj=o_ y from HM.I.2.2];dsimp only;rw[HW.I.1]
 have Mb:=lP (n:=i) S.I.fr.own S.I.low HR.I.1 HW.I.2.1 Zcv zw;go_wp2_with(refine eT _ S.I.fr.box ?_);refine Mb.mono ?_;clear Mb;rintro e afT ⟨q2,rfl,hp,ht⟩;replace S:=aA (S.I.call ht);obtain⟨hr2,x2,hx2,sw⟩:=qp HR.I.1 HR.I.2.1 HR.I.2.2.1 HW.I.2.1 Zcv Zcv (.inl rfl) zw hp;have Mb:=bB (n:=n) 0 S.I.fr.own S.I.low hr2 hx2 ZbZ;rw[show x2.id=x.id from congrArg aD.id sw,hp,<-HE.I]at Mb;clear hp ht hr2 hx2 sw afO hnx;go_wp2_with fail;refine Mb.mono ?_;clear Mb;rintro e A42 ⟨q3,rfl,hp,ht⟩;replace S:=aA (S.I.call ht);have HP:da (q3.pure=_):=hp;clear hp ht;go_wp2_with(refine ec _ _ q3.cells S.I.an ?_);refine gZ results184 S.I.an ?_;exact⟨q3,rfl,HP.I,S.I.done _⟩
end
section
open Go.Maps
section
variable {w W:w_}{bj n gs:Nat}{q:af}
def mB {x:au}{l:List ByteArray}{a:Option d_}{c:Nat}(h:ap w bj q)(hb:aI w W (blk x.ak))(hx:q.ae[n]? =o_ x)(ha:q.am=o_ ⟨gs,0,n_⟩)(ho:W.ownsRow bj 9 1 (s_ a l.length c) l.length (bT.flat l))(hf:∀g∈blk a,g∈blk x.ak\/w.heap.size<=g):
  yr w bj q ({q with ae:=q.ae.set n {x with Ma:=l,ak:=a,aq:=c}}:af) (W.setCell ⟨gs,n*3+2,n_⟩ (s_ a l.length c))/\(∃u,W.cell? ⟨gs,n*3+2,n_⟩=o_ u)/\W.frozen? ⟨gs,n*3+2,n_⟩=false:=by
 have hn:n<q.ae.length:=(Lj.1 hx).1;have hset:q.ae.set n {x with Ma:=l,ak:=a,aq:=c}=q.ae.take n++{x with Ma:=l,ak:=a,aq:=c}::q.ae.drop (n+1):=Zed
 have hk:∀(z:au)(A B:List au),(A++z::B).filterMap aC.bt=A.filterMap aC.bt++((aC.bt z).toList++B.filterMap aC.bt):=λz A B=>by
  rw[LW,LH];cases aC.bt z<;>simp
 have h6:q.ae.filterMap aC.bt=(q.ae.take n).filterMap aC.bt++((aC.bt x).toList++(q.ae.drop (n+1)).filterMap aC.bt):=(congrArg (List.filterMap aC.bt) (kL hx)).trans (hk _ _ _);obtain⟨P1,uZ⟩:∃P1,P1=blk q.aN++(q.L8.filterMap aR.bt++(blk q.bc++(blk q.ay++(blk q.ax++blk q.am))))++(q.ae.take n).filterMap aC.bt:=⟨_,rfl⟩
 obtain⟨P2,IQ⟩:∃P2,P2=(q.ae.drop (n+1)).filterMap aC.bt++(blk q.aK++q.ai.filterMap aU.bt):=⟨_,rfl⟩
 have e1:q.Mc=P1++((aC.bt x).toList++P2):=ZfJ
 have e2:({q with ae:=q.ae.set n {x with Ma:=l,ak:=a,aq:=c}}:af).Mc=P1++((a.map (·.block)).toList++P2):=by
  rw[uZ,IQ];simp only[af.Mc,hset,hk,Lm];rfl
 have hkx:∀g,g∈blk x.ak↔g∈(aC.bt x).toList:=λg=>Iff.rfl
 have Dl:=h.nodup;rw[e1]at Dl;have hP:∀g,g∈P1\/g∈P2->g∉blk x.ak:=λg hg hm=>by
  exact Zal
 have hin:∀g,g∈P1\/g∈P2->g∈q.Mc:=λg hg=>by
  exact ZaD
 have hgl:gs∈blk q.am:=ZcJ
 have hgP:gs∈P1:=by rw[uZ];simp[hgl]
 have hsW:∀g,g∈P1\/g∈P2->W.heap[g]? =w.heap[g]?:=λg hg=>hb.same g (h.lt g (hin g hg)).2 (hP g hg)
 have hrow:=aL h.ae λg hg=>hsW g (.inl Zcp)
 obtain⟨h1,h2,h3⟩:=rn (K:=bm) (y:={x with Ma:=l,ak:=a,aq:=c}) (v:=s_ a l.length c) hrow hx ha (show 2<3 by decide) rfl;refine⟨?_,h3⟩;have hnd:({q with ae:=q.ae.set n {x with Ma:=l,ak:=a,aq:=c}}:af).Mc.Nodup:=by
  exact Q_
 have hs:∀g,g≠gs->(W.setCell ⟨gs,n*3+2,n_⟩ (s_ a l.length c)).heap[g]? =W.heap[g]?:=λg hg=>aH hg
 have hsp:q.Mc=(blk q.aN++(q.L8.filterMap aR.bt++(blk q.bc++(blk q.ay++blk q.ax))))++(blk q.am++(q.ae.filterMap aC.bt++(blk q.aK++q.ai.filterMap aU.bt))):=ZdE
 have nw:∀g,(g∈(blk q.aN++(q.L8.filterMap aR.bt++(blk q.bc++(blk q.ay++blk q.ax))))\/g∈(q.ae.filterMap aC.bt++(blk q.aK++q.ai.filterMap aU.bt)))->g≠gs:=λg hg he=>by
  exact Zae
 have hall:∀g,g∈P1\/g∈P2->g≠gs->(W.setCell ⟨gs,n*3+2,n_⟩ (s_ a l.length c)).heap[g]? =w.heap[g]?:=λg hg hne=>(hs g hne).trans (hsW g hg)
 refine⟨⟨aL h.L8 λg hg=>hall g (.inl Zcp) (nw g (.inl Zdi)),aL h.aj λg hg=>hall g (.inl Zcp) (nw g (.inl Zdi)),aL h.L9 λg hg=>hall g (.inl Zcp) (nw g (.inl Zdi)),aL h.ag λg hg=>hall g (.inl Zcp) (nw g (.inl Zdi)),Zdc,aL h.ai λg hg=>hall g (.inr (by rw[IQ];simp[hg])) (nw g (.inr Zdi)),λz hz=>(h.eI z hz).same λg hg=>hall g (.inl Zd1) (nw g (.inl Zez)),?_,?_,hnd⟩,⟨hb.os,hb.tape,hb.output,by rw[ja];exact hb.size,λg hg hm=>(hs g λe=>hm (e▸hin gs (.inl hgP))).trans (hb.same g hg λhx=>hm Zes)⟩,λg hg=>?_⟩
 .intro z hz
  rw[hset]at hz;rcases Kg.1 hz with hz|hz
  .exact (h.eE z (RK hz)).same λg hg=>hall g (.inl Zff) (nw g (.inr (by simp only[Kg];exact .inl (dP.2 ⟨z,RK hz,hg⟩))))
  .rcases Kt.1 hz with rfl|hz
   .exact WP
   .exact (h.eE z (RL hz)).same λg hg=>hall g (.inr (by rw[IQ];exact Lz _ (dP.2 ⟨z,hz,hg⟩))) (nw g (.inr (by simp only[Kg];exact .inl (dP.2 ⟨z,RL hz,hg⟩))))
 .intro z hz
  exact(h.eR z hz).same λg hg=>hall g (.inr (by rw[IQ];simp only[Kg];exact .inr (.inr (dP.2 ⟨z,hz,hg⟩)))) (nw g (.inr (by simp only[Kg];exact .inr (.inr (dP.2 ⟨z,hz,hg⟩)))))
 .exact V_
def IY {m Y5 gp g:Nat}{y:au}(h:ap W bj q)(hy:q.ae[m]? =o_ y)(iE:q.am=o_ ⟨Y5,0,n_⟩)(l9:q.aN=o_ ⟨gp,0,n_⟩)(hg:g∈blk y.ak):g∈q.Mc/\g≠Y5/\g≠gp/\Y5≠gp:=by
 have hk:g∈q.ae.filterMap aC.bt:=dP.2 ⟨y,KA hy,fZ.1 hg⟩;have h1:=h.nodup;have e:q.Mc=blk q.aN++((q.L8.filterMap aR.bt++(blk q.bc++(blk q.ay++blk q.ax)))++(blk q.am++(q.ae.filterMap aC.bt++(blk q.aK++q.ai.filterMap aU.bt)))):=ZdE
 rw[e]at h1;obtain⟨-,h2,h3⟩:=Kf.1 h1;obtain⟨-,h4,-⟩:=Kf.1 h2;obtain⟨-,-,h5⟩:=Kf.1 h4;have ma:Y5∈blk q.am:=by rw[iE];simp[blk]
 have mp:gp∈blk q.aN:=Zfj
 exact⟨by rw[e];simp only[Kg];exact .inr (.inr (.inr (.inl hk))),λe=>h5 Y5 ma g (Lz _ hk) e.symm,λe=>h3 gp mp g (by simp only[Kg];exact .inr (.inr (.inl hk))) e.symm,λe=>h3 gp mp Y5 (by simp only[Kg];exact .inr (.inl ma)) e.symm⟩
def oN {x:au}{l:List ByteArray}{a:Option d_}{c:Nat}{N:Int}{ok:ci->Bool}{last:Int}(hr:aw (·.id) ok last q.pure.ae=true)(hx:q.ae[n]? =o_ x)(hN:x.id=N):({q with ae:=q.ae.set n {x with Ma:=l,ak:=a,aq:=c}}:af).pure=cV N l q.pure:=by
 have hx':q.pure.ae[n]? =o_ x.toci:=by show(q.ae.map (·.toci))[n]? =_;rw[Kk,hx];rfl
 unfold cV;rw[jF (num:=λx:ci=>x.id) (db hr).2 hx' hN]
 show({q.pure with ae:=(q.ae.set n {x with Ma:=l,ak:=a,aq:=c}).map (·.toci)}:aE)=_
 rw[PN];rfl
def sq {x:aM}{l:List ByteArray}{a:Option d_}{c:Nat}{N:Int}{ok:dS->Bool}{last:Int}(hr:aw (·.id) ok last q.pure.ai=true)(hx:q.ai[n]? =o_ x)(hN:x.id=N):({q with ai:=q.ai.set n {x with Ma:=l,ak:=a,aq:=c}}:af).pure=gU N l q.pure:=by
 have hx':q.pure.ai[n]? =o_ x.todS:=by show(q.ai.map (·.todS))[n]? =_;rw[Kk,hx];rfl
 unfold gU;rw[jF (num:=λx:dS=>x.id) (db hr).2 hx' hN]
 show({q.pure with ai:=(q.ai.set n {x with Ma:=l,ak:=a,aq:=c}).map (·.todS)}:aE)=_
 rw[PN];rfl
end
end
section
def DL {g:aD->Bool}{f:aD->aD}{x:aD}(hf:g (f x)=false)(hx:g x=true):∀{l:List aD},l.Pairwise (λx y=>x.id<y.id)->x∈l->((ce x.id f l).filter g).length+1=(l.filter g).length
 |[],_,h=>ZcF
 |y::r,hr,h=>by
  rw[LM]at hr;by_cases e:y=x
  .subst e
   have h2:ce y.id f (y::r)=f y::r:=by
    exact ZaV
   rw[h2];simp[hf,hx]
  .have hm:x∈r:=by
    rcases Kt.1 h with h1|h1
    .exact absurd h1.symm e
    .exact h1
   have h4:=DL hf hx hr.2 hm;have h5:¬y.id=x.id:=by have:=hr.1 x hm;omega
   have h6:ce x.id f (y::r)=y::ce x.id f r:=by simp[ce,h5]
   rw[h6];by_cases hy:g y=true
   .simp only[LN,hy,if_true,Lg];omega
   .simp only[LN,hy,J5,if_false];exact h4
section
variable {p:aE}{f:aD->aD}{st on:Int}{v:aD}
def qO (h:jl st on p.L8=n_):ff f st on p=p:=by
 unfold ff;rw[Dt h];rfl
def zC (hr:aQ p)(hst:¬st=0/\¬st=1)(h:jl st on p.L8=o_ v):ff f st on p=ff f st on (gF f p v)/\((gF f p v).L8.filter (ie st on)).length+1=(p.L8.filter (ie st on)).length:=by
 obtain⟨m1,m2,m3⟩:=ft h;have h1:((gF f p v).L8.filter (ie st on)).length+1=(p.L8.filter (ie st on)).length:=by
  refine DL (f:=λy=>iY p.next 0 (f y)) ?_ ?_ hr.kW m1
  .unfold ie iY
   split
   .show (decide ((0:Int)=st)&&_)=false
    rw[decide_eq_false zw];rfl
   .show (decide ((1:Int)=st)&&_)=false
    rw[decide_eq_false zw];rfl
  .unfold ie;simp[m2,m3]
 refine⟨?_,h1⟩;unfold ff;rw[<-h1];simp only[gW,h]
end
structure If (f:aD->aD)(st on:Int)(tgt:aE)(n:Nat)(x:aD)(k:Nat)(q:af)(z:Int):Prop where
 r:aQ q.pure
 pos:q.pure.L8[n]? =o_ x
 nx:q.next+k<=1000000000
 cnt:(q.pure.L8.filter (ie st on)).length=k
 same:ff f st on q.pure=tgt
 best:dO (λx:aD=>decide (x.Md=st)&&decide (x.on=on)) q.pure.L8 q.L8.length z
section
variable {f:aD->aD}{st on z z2:Int}{tgt:aE}{n k i:Nat}{x:aD}{v:ao}{q q2:af}
def If.start (hr:aQ q.pure)(hp:q.pure.L8[n]? =o_ x)(hn:q.next<=999999990)(hb:dO (λx:aD=>decide (x.Md=st)&&decide (x.on=on)) q.pure.L8 q.L8.length z):If f st on (ff f st on q.pure) n x (q.pure.L8.filter (ie st on)).length q z:=by
 have h1:(q.pure.L8.filter (ie st on)).length<=q.pure.L8.length:=Qq _ _;have h2:=hr.dl;exact⟨hr,hp,zw,rfl,rfl,hb⟩
def If.step (h:If f st on tgt n x k q z)(hx:x.Md=1)(hst:¬st=0/\¬st=1)(hf:f=(λy=>y)\/ ∃t,bw t=true/\f=lG t)(hw:jl st on q.pure.L8=o_ v.toaD)(hp:q2.pure=gF f q.pure v.toaD):
  1<=k/\q.next+1<=1000000000/\aQ q2.pure/\∀z2,dO (λx:aD=>decide (x.Md=st)&&decide (x.on=on)) q2.pure.L8 q2.L8.length z2->If f st on tgt n x (k-1) q2 z2:=by
 obtain⟨m1,m2,m3⟩:=ft hw;obtain⟨h1,h2⟩:=zC (f:=f) h.r hst hw;have h3:=h.cnt;have h4:=h.nx;have h5:=mU q.next v.toaD;have h6:q2.next=gf q.next v.toaD:=congrArg aE.next hp;have hr2:aQ q2.pure:=by rw[hp];exact i9 h.r m1 (by rw[m2];exact hst.1) hf ZfG
 refine⟨zw,zw,hr2,λz2 hb=>⟨hr2,?_,zw,by rw[hp];omega,by rw[hp,<-h1];exact h.same,hb⟩⟩;rw[hp];refine ym h.pos λe=>hst.2 ?_
 have:=Gc h.r m1 (KA h.pos) e
 rw[this,m2]at hx;exact hx
end
end
section
open Go.Maps
attribute [local go_sem ↓] Kc Kd
def uJ {p:aE}{y:ci}(h:aQ p)(hy:y∈p.ae):y.max<=5:=by
 have h1:=(cK h.ae y hy).2;unfold ct at h1;simp only[J7]at h1;exact(bz.1 h1.1).2
def CD:aq4 185 8 lc:=by
 refine aqf λq n bj x bE N M s w f1 f3 f4 HR HF S=>?_
 go_enter func185,ntmps185
 go_upto_region 1 with fail;generalize((w.alloc (c_ q.cells 46)).alloc (c_ (j9 (8,N,M,s)) 217)).alloc (c_ ar 46)=A at*;obtain⟨-,o1,-,-⟩:=S.I.op.cells;simp only at o1;have hpf:=ef (num:=λx:au=>x.id) N q.ae 0;have Mb:=lr q N A ZbX S.I.fr.own.at;generalize place (q.ae.map (λx=>x.id)) N 0=z at*;go_wp2_with(refine eT _ S.I.fr.box ?_);refine Mb.mono ?_;clear Mb;rintro e A2 ⟨rfl,hb2⟩;replace S:=aA (S.I.reads hb2);clear hb2 o1;have hfm:=lJ (num:=λx:ci=>x.id) (je:=λx:au=>x.id) (g:=λx:au=>x.toci) (λ_=>rfl) (id:=N) q.ae;rcases hpf with⟨hz,hf⟩|⟨m,y,hz,hm,hid,hf⟩
 .subst hz
  rw[hf]at hfm;have HE:da (lc (8,N,M,s) bE x.id q.pure=bu 3 x.id q.pure):=by show lc (8,N,M,s) bE x.id q.pure=_;unfold lc;rw[show cg (λx:ci=>x.id) N q.pure.ae=n_ from hfm]
  exact ZbD
 rw[hf]at hfm;rw[Li]at hz;subst hz;have afO:decide ((m:Int)<0)=false:=decide_eq_false zw;have HM:da (q.ae[m]? =o_ y/\y.id=N/\cg (λx:ci=>x.id) N q.pure.ae=o_ y.toci):=⟨hm,hid,hfm⟩
 have hml:=(Lj.1 hm).1;have j0:(0:Int)<=(m:Int):=zw
 have j1:(m:Int)<(q.ae.length:Int):=zw
 clear hm hid hf hfm hml;obtain⟨Y5,iE,hat⟩:=iA S.I.fr.own.at.2.2.2.2.1 HM.I.1;have m6:=S.I.fr.box.cells.2.2.2.2.2.2.1;rw[iE]at m6;have d0:=hat.1;have d1:=hat.2.1;have d2:=hat.2.2;have HG:da (q.am=o_ ⟨Y5,0,n_⟩):=iE;clear hat iE;have h5:=(Kp A2.heap.size A2).alloc (Ki _) (c_ #[i_ j_ y.id,i_ j_ y.max,s_ y.ak y.Ma.length y.aq] 137);have afa:da ((A2.alloc (c_ #[i_ j_ y.id,i_ j_ y.max,s_ y.ak y.Ma.length y.aq] 137)).heap[A2.heap.size]? =o_ (c_ #[i_ j_ y.id,i_ j_ y.max,s_ y.ak y.Ma.length y.aq] 137)/\w.heap.size+3<=A2.heap.size):=⟨Kj _ _,S.I.fr.sz.2.1⟩
 replace S:=aA (S.I.reads h5);clear h5;go_upto_region 5 with fail;generalize A2.alloc (c_ #[i_ j_ y.id,i_ j_ y.max,s_ y.ak y.Ma.length y.aq] 137)=B at*;generalize A2.heap.size=X at*;clear m6 d0 d1 d2 afO;obtain⟨o0,o1,-,-⟩:=S.I.op.cells;simp only at o0 o1;have Mb:=ij q 6 N B ZbX S.I.fr.own.at;go_wp2_with(refine eT _ S.I.fr.box ?_);refine Mb.mono ?_;clear Mb o0 o1;rintro e A3 ⟨⟨z,rfl,gV⟩,hb2⟩;replace afa:=aA (And.intro ((hb2.block X (J2.1 afa.I.1).1).trans afa.I.1) afa.I.2);replace S:=aA (S.I.reads hb2);clear hb2;have IB:da (bw s=true):=f3;clear f1 f3 f4;rcases pp gV with⟨hz,hw⟩|⟨i,v,hz,hi,hw⟩
 .have HW:da (jl 6 N q.pure.L8=n_):=hw
  have afO:decide (z>=0)=false:=decide_eq_false zw;clear gV hz hw;have HU:da (lc (8,N,M,s) bE x.id q.pure=if(y.Ma.length:Int)=y.max then mX 5 (8,N,M,s) bE x.id q.pure else bu 0 x.id (cV N (y.Ma++[s]) q.pure)):=by show lc (8,N,M,s) bE x.id q.pure=_;unfold lc;rw[show cg (λx:ci=>x.id) N q.pure.ae=o_ y.toci from HM.I.2.2];dsimp only;rw[HW.I]
  have x1:A3.cell? ⟨X,1,n_⟩=o_ (i_ j_ y.max):=Zcj
  have x2:A3.cell? ⟨X,2,n_⟩=o_ (s_ y.ak y.Ma.length y.aq):=Zcj
  by_cases hfl:(y.Ma.length:Int)=y.max
  .have HE:da (lc (8,N,M,s) bE x.id q.pure=mX 5 (8,N,M,s) bE x.id q.pure):=HU.I.trans (if_pos hfl)
   have e1:((y.Ma.length:Int)==y.max)=true:=by simp[hfl]
   clear hfl;have Mb:=oR q n bj x 5 bE (8,N,M,s) A3 S.I.fr.own S.I.low HR.I.1 HR.I.2.1 ZbQ Zde HR.I.2.2.2.2.1 HR.I.2.2.2.2.2;go_wp2_with(first|(refine eT _ S.I.fr.box ?_)|(refine LS rfl 217 (.tmp 6) rfl (w.heap.size+1) (by rfl) 217 (j9 (8,N,M,s)) (0,0) _ S.I.op underlying217 rfl ZbG ?_));exact Zbi
  have HE:da (lc (8,N,M,s) bE x.id q.pure=bu 0 x.id (cV N (y.Ma++[s]) q.pure)):=HU.I.trans (if_neg hfl);have e1:((y.Ma.length:Int)==y.max)=false:=by simp[hfl]
  have HN:da (¬(y.Ma.length:Int)=y.max):=hfl;clear hfl HU;go_upto_region 7 with fail;clear e1 afO x1 x2;replace S:=aA (S.I.reads (Kp _ _).drew);replace afa:da (A3.drew.heap[X]? =o_ (c_ #[i_ j_ y.id,i_ j_ y.max,s_ y.ak y.Ma.length y.aq] 137)/\w.heap.size+3<=X):=afa.I;refine Kr (S:=λw'=>av w' w.heap.size q/\oo w' (w.heap.size+1) (8,N,M,s)/\w'.heap[X]? =o_ (c_ #[i_ j_ y.id,i_ j_ y.max,s_ y.ak y.Ma.length y.aq] 137)) ZbG ⟨S.I.fr.box,S.I.op,afa.I.1⟩ (λbN=>?_);generalize A3.drew=V2 at*;refine agi 0 bN ?_;refine agi 1 bN ?_;refine agi 2 bN ?_;refine agi 4 bN ?_;refine agi 5 bN ?_;refine agi 7 bN ?_;refine agi 8 bN ?_;clear bN;have hbz:w.heap.size+3<=V2.heap.size:=S.I.fr.sz.2.1;have lW:=(J2.1 afa.I.1).1;have hS:∀W,B_ V2.heap.size V2 W->av W w.heap.size q/\oo W (w.heap.size+1) (8,N,M,s)/\W.heap[X]? =o_ (c_ #[i_ j_ y.id,i_ j_ y.max,s_ y.ak y.Ma.length y.aq] 137):=λW hb=>⟨S.I.fr.box.below hb,(hb.block _ zw).trans S.I.op,(hb.block _ lW).trans afa.I.1⟩
  have hil:y.Ma.length<=5:=by have h5:=(ji (o:=(8,N,M,s)) HR.I.1 HM.I.2.2).2.2.1;have h6:=uJ HR.I.1 (Lr.2 ⟨y,KA HM.I.1,rfl⟩);have h7:y.toci.Ma=y.Ma:=rfl;have h8:y.toci.max=y.max:=rfl;omega
  have wg:da (∀(W:w_)(g:Nat),B_ V2.heap.size V2 W->W.heap[g]? =o_ (c_ #[] 9)->V2.heap.size<=g->∃a5 c5 w5,(Builtin.append_ #[49,49] 49 #[s_ (o_ ⟨g,0,n_⟩) 0 0,s_ y.ak y.Ma.length y.aq]).run J3 W=.ok (s_ a5 y.Ma.length c5) w5/\w5.ownsRow V2.heap.size 9 1 (s_ a5 y.Ma.length c5) y.Ma.length (bT.flat y.Ma)/\B_ V2.heap.size V2 w5/\∀h,V2.heap.size<=h->h≠g->h<W.heap.size->w5.heap[h]? =W.heap[h]?):=λW g hb hg hge=>by
   obtain⟨a5,c5,w5,hap,oe,A7,-⟩:=tO W V2.heap.size g hg hge y.ak y.Ma y.aq (lj (S.I.fr.own.below hb).at.2.2.2.2.1 HM.I.1) zw hb.size;exact ZaA
  have afR:∀(W:w_)(c:Obj),B_ V2.heap.size V2 W->B_ V2.heap.size V2 (W.alloc c):=λW c hb=>hb.alloc hb.size _
  refine KW (rs:=[3,9]) ZbG zy ?_;refine KX rfl (λK hK=>?_) (KX rfl (λK hK=>?_) KY)
  focus
   have b1:B_ V2.heap.size V2 (V2.alloc (c_ #[] 9)):=afR _ _ (Kp _ _);simp only[KZ,K0,K1];rw[if_pos (by rfl)];go_wp2_with fail;refine hK.out _ _ (hS _ b1) (λbN=>?_);clear hK K bN
   try simp only[pt,sb,s0,s1]
   have b7:B_ V2.heap.size V2 ((V2.alloc (c_ #[] 9)).alloc (c_ #[t_ s] 9)):=afR _ _ b1;refine KW (rs:=[6,9]) ZbG zy ?_;refine KX rfl (λK hK=>?_) (KX rfl (λK hK=>?_) KY)
   focus
    clear b7;obtain⟨a5,c5,w5,hap,oe,iJ,-⟩:=wg.I _ _ b1 (Kj _ _) (Ki _);simp only[KZ,K0,K1];rw[if_pos (by rfl)];refine cM _ _ _ rfl _ _ _ w5 rfl rfl hap ?_;refine hK.out _ _ (hS _ iJ) (λbN=>?_);clear hK K bN
    try simp only[pt,sb,s0,s1]
    refine L7 9 (λK hK=>?_);go_wp2_with fail;refine hK.out _ _ (hS _ (afR _ _ iJ)) (λbN=>?_);clear hK K bN
    try simp only[pt,sb,s0,s1]
    have qJ:da ((w5.alloc (c_ #[t_ s] 9)).ownsRow V2.heap.size 9 1 (s_ a5 y.Ma.length c5) y.Ma.length (bT.flat y.Ma)/\(w5.alloc (c_ #[t_ s] 9)).heap[w5.heap.size]? =o_ (c_ #[t_ s] 9)/\B_ V2.heap.size V2 (w5.alloc (c_ #[t_ s] 9))):=⟨cR oe ((Kp _ _).alloc (Ki _) _),Kj _ _,afR _ _ iJ⟩
    clear hap oe iJ b1 afR hS;generalize w5.alloc (c_ #[t_ s] 9)=w6 at*;generalize w5.heap.size=gx at*
   rotate_left
   focus
    obtain⟨a5,c5,w6,om,qH,jQ,zU⟩:=wg.I _ _ b7 ((PU zy).trans (Kj _ _)) (Ki _);simp only[KZ,K0,K1];rw[if_pos (by rfl)];go_wp2_with fail;refine hK.out _ _ (hS _ b7) (λbN=>?_);clear hK K bN
    try simp only[pt,sb,s0,s1]
    refine L7 6 (λK hK=>?_);refine cM _ _ _ rfl _ _ _ w6 rfl rfl om ?_;refine hK.out _ _ (hS _ jQ) (λbN=>?_);clear hK K bN
    try simp only[pt,sb,s0,s1]
    have qJ:da (w6.ownsRow V2.heap.size 9 1 (s_ a5 y.Ma.length c5) y.Ma.length (bT.flat y.Ma)/\w6.heap[(V2.heap.size+1)]? =o_ (c_ #[t_ s] 9)/\B_ V2.heap.size V2 w6):=⟨qH,(zU _ zw zw ZdQ).trans Zeb,jQ⟩
    clear om qH jQ zU b1 b7 afR hS
  rotate_left 2
  focus
   have b7:B_ V2.heap.size V2 (V2.alloc (c_ #[t_ s] 9)):=afR _ _ (Kp _ _);simp only[KZ,K0,K1];rw[if_pos (by rfl)];go_wp2_with fail;refine hK.out _ _ (hS _ b7) (λbN=>?_);clear hK K bN
   try simp only[pt,sb,s0,s1]
   have b1:B_ V2.heap.size V2 ((V2.alloc (c_ #[t_ s] 9)).alloc (c_ #[] 9)):=afR _ _ b7;refine L7 3 (λK hK=>?_);go_wp2_with fail;refine hK.out _ _ (hS _ b1) (λbN=>?_);clear hK K bN
   try simp only[pt,sb,s0,s1]
   obtain⟨a5,c5,w6,om,qH,jQ,zU⟩:=wg.I ((V2.alloc (c_ #[t_ s] 9)).alloc (c_ #[] 9)) (V2.heap.size+1) b1 (Kq _ _ _) zw;refine L7 6 (λK hK=>?_);refine cM _ _ _ rfl _ _ _ w6 rfl rfl om ?_;refine hK.out _ _ (hS _ jQ) (λbN=>?_);clear hK K bN
   try simp only[pt,sb,s0,s1]
   have qJ:da (w6.ownsRow V2.heap.size 9 1 (s_ a5 y.Ma.length c5) y.Ma.length (bT.flat y.Ma)/\w6.heap[V2.heap.size]? =o_ (c_ #[t_ s] 9)/\B_ V2.heap.size V2 w6):=⟨qH,(zU _ zw zw ZdQ).trans ((PU zy).trans (Kj _ _)),jQ⟩
   clear om qH jQ zU b1 b7 afR hS
  all_goals
   obtain⟨a7,c7,w7,gT,mP,xI,-⟩:=ou w6 V2.heap.size a5 c5 y.Ma qJ.I.1 _ [s] 1 (jO qJ.I.2.1) (by simp only[Lg,K4];omega) qJ.I.2.2.size;have mI:(y.Ma++[s]).length=y.Ma.length+1:=by rw[Lf];rfl
   simp only[Lg,K4,Li]at gT mP;have gh:B_ V2.heap.size V2 w7:=qJ.I.2.2.grown xI qJ.I.2.2.size λc e=>(cf qJ.I.1 (di e)).1
   rw[<-mI]at gT mP;obtain⟨s1,⟨u,c⟩,f⟩:=mB (n:=m) S.I.fr.own (aI.dI gh) HM.I.1 HG.I (cq mP S.I.low) (λg hg=>.inr (cf mP hg).1);rw[mI]at gT s1;refine L7 10 (λK hK=>?_);refine cM _ _ _ rfl _ _ _ w7 rfl rfl gT ?_;refine hK.out _ _ ⟨S.I.fr.box.below gh,(gh.block _ zw).trans S.I.op,(gh.block _ lW).trans afa.I.1⟩ (λbN=>?_);clear hK K bN
   try simp only[pt,sb]
   have wj:av w7 w.heap.size q/\oo w7 (w.heap.size+1) (8,N,M,s)/\w7.heap[X]? =o_ (c_ #[i_ j_ y.id,i_ j_ y.max,s_ y.ak y.Ma.length y.aq] 137):=⟨S.I.fr.box.below gh,(gh.block _ zw).trans S.I.op,(gh.block _ lW).trans afa.I.1⟩
   replace S:=aA (S.I.call s1);clear gT mP xI gh qJ wg s1;refine agi 11 wj ?_;refine agi 12 wj ?_;refine KW (rs:=[13]) ZbG zy ?_;refine KX rfl (λK hK=>?_) KY;have uQ:(w7.setCell ⟨Y5,m*3+2,n_⟩ (s_ a7 (y.Ma.length+1) c7)).heap[X]? =o_ (c_ #[i_ j_ y.id,i_ j_ y.max,s_ y.ak y.Ma.length y.aq] 137):=(aH (λe=>?_)).trans wj.2.2;rotate_left
   .have h5:=(S.I.fr.lo Y5 (gD (.inr<|.inr<|.inr<|.inr<|.inl<|Zef))).2;have:=afa.I.2;omega
   simp only[KZ,K0,K1];rw[if_pos (by rfl)];go_wp2_with fail;refine hK.out _ _ ⟨S.I.fr.box,S.I.op,uQ⟩ (λbN=>?_);clear hK K bN;refine K3 ZbG ?_ _;clear c f u wj uQ lW hbz;go_upto_region 13 with fail;generalize w7.setCell ⟨Y5,m*3+2,n_⟩ (s_ a7 (y.Ma.length+1) c7)=C at*;have CK:da (∃q1:af,q1={q with ae:=q.ae.set m {y with Ma:=(y.Ma++[s]),ak:=a7,aq:=c7}}/\q1.pure=cV N (y.Ma++[s]) q.pure/\q1.cells=q.cells/\aQ q1.pure/\q1.L8[n]? =o_ x):=by
    have hq:({q with ae:=q.ae.set m {y with Ma:=(y.Ma++[s]),ak:=a7,aq:=c7}}:af).pure=cV N (y.Ma++[s]) q.pure:=oN HR.I.1.ae HM.I.1 HM.I.2.1;have hr2:aQ (cV N (y.Ma++[s]) q.pure):=by
     refine gN HR.I.1 (λz hz hk=>?_) (λt0 ht=>?_)
     .have:=HN.I;have h5:=(ji (o:=(8,N,M,s)) HR.I.1 HM.I.2.2).2.2.1;have h7:y.toci.Ma=y.Ma:=rfl;have h8:y.toci.max=y.max:=rfl;rw[only HR.I.1.ae HM.I.2.2 hz hk,mI];rw[h7]at h5;push_cast;omega
     .exact (Kg.1 ht).elim (λht=>(ji (o:=(8,N,M,s)) HR.I.1 HM.I.2.2).2.2.2 t0 ht) (λht=>ZeR)
    exact Zaw
   obtain⟨q1,hq1,hq⟩:=CK.I;rw[<-hq1]at S;have HQ:=aA hq;clear hq1 hq CK;have Mb:=bB (n:=n) 0 S.I.fr.own S.I.low HQ.I.2.2.1 HQ.I.2.2.2 ZbQ;rw[HQ.I.1,HQ.I.2.1]at Mb;go_wp2_with(refine eT _ S.I.fr.box ?_);refine Mb.mono ?_;clear Mb;rintro e A2 ⟨q2,rfl,hp,ht⟩;replace S:=aA (S.I.call ht);have HP:da (q2.pure=_):=hp;clear hp ht;go_wp2_with(refine ec _ _ q2.cells S.I.an ?_);refine gZ results185 S.I.an ?_;exact⟨q2,rfl,HP.I.trans HE.I.symm,S.I.done _⟩
 have HW:da (jl 6 N q.pure.L8=o_ v.toaD/\q.L8[i]? =o_ v/\v.Md=6):=⟨hw,hi,(ft hw).2.1⟩
 subst hz;have afO:decide ((i:Int)>=0)=true:=decide_eq_true zw;clear gV hw hi afa;have HE:da (lc (8,N,M,s) bE x.id q.pure=bu 0 x.id (gF (lG s) q.pure v.toaD)):=by show lc (8,N,M,s) bE x.id q.pure=_;unfold lc;rw[show cg (λx:ci=>x.id) N q.pure.ae=o_ y.toci from HM.I.2.2];dsimp only;rw[HW.I.1]
 obtain⟨-,-,-,o3⟩:=S.I.op.cells;simp only at o3;obtain⟨gp,l9,-⟩:=cn S.I.fr.own.at.1 HW.I.2.1;have m2:=S.I.fr.box.cells.2.2.1;have k1:(i:Int)<(q.L8.length:Int):=by have:=(Lj.1 HW.I.2.1).1;omega
 have k0:(0:Int)<=(i:Int):=zw
 rw[l9]at m2;obtain⟨s1,⟨u,c⟩,f⟩:=eY (n:=i) (j:=9) (v:=t_ s) (y:={v with got:=s}) S.I.fr.own HW.I.2.1 l9 ⟨rfl,rfl,rfl⟩ (by decide) rfl;replace S:=aA (S.I.call s1);clear s1 l9;go_upto_region 10 with fail;generalize A3.setCell ⟨gp,i*12+9,n_⟩ (t_ s)=E at*;clear m2 c f u k0 k1 afO o3;obtain⟨afn,hqg,g1,g2,g3,g4⟩:=kg HR.I.1 HW.I.2.1 IB.I;rw[<-hqg]at S;have Mb:=lP (n:=i) S.I.fr.own S.I.low g3 g4 Zfo (by rw[hqg];have:=HR.I.2.2.2.1;show q.next<=_;omega);rw[g1,g2,show({v with got:=s}:ao).toaD=lG s v.toaD from rfl,Bz]at Mb;clear hqg g1 g2 g3 g4;go_wp2_with(refine eT _ S.I.fr.box ?_);refine Mb.mono ?_;clear Mb;rintro e afP ⟨q2,rfl,hp,ht⟩;replace S:=aA (S.I.call ht);obtain⟨hr2,x2,hx2,sw⟩:=qp HR.I.1 HR.I.2.1 HR.I.2.2.1 HW.I.2.1 Zcv Zcv (.inr ⟨_,IB.I,rfl⟩) Zde hp;have S2:=aA S.I.put;go_upto_region 13 with(refine ec _ _ q2.cells S.I.fr.box ?_);generalize afP.setRow w.heap.size q2.cells=afv at*;clear S;have S:=S2;clear S2;have Mb:=bB (n:=n) 0 S.I.fr.own S.I.low hr2 hx2 ZbZ;rw[show x2.id=x.id from congrArg aD.id sw,hp,<-HE.I]at Mb;clear hp ht hr2 hx2 sw;go_wp2_with(refine eT _ S.I.fr.box ?_);refine Mb.mono ?_;clear Mb;rintro e E32 ⟨q3,rfl,hp,ht⟩;replace S:=aA (S.I.call ht);have HP:da (q3.pure=_):=hp;clear hp ht;go_wp2_with(refine ec _ _ q3.cells S.I.an ?_);refine gZ results185 S.I.an ?_;exact⟨q3,rfl,HP.I,S.I.done _⟩
def BE:aq4 184 7 dE:=by
 refine aqf λq n bj x bE N M s w f1 f3 f4 HR HF S=>?_
 go_enter func184,ntmps184
 go_upto_region 1 with fail;generalize((w.alloc (c_ q.cells 46)).alloc (c_ (j9 (7,N,M,s)) 217)).alloc (c_ ar 46)=A at*;obtain⟨-,o1,-,-⟩:=S.I.op.cells;simp only at o1;have Mb:=lw q N A ZbX S.I.fr.own.at;go_wp2_with(refine eT _ S.I.fr.box ?_);refine Mb.mono ?_;clear Mb;rintro e A2 ⟨rfl,hb2⟩;replace S:=aA (S.I.reads hb2);clear hb2 o1;generalize place (q.aj.map (λx=>x.id)) N 0=z0 at*;obtain⟨o0,o1,-,-⟩:=S.I.op.cells;simp only at o0 o1;have hpf:=ef (num:=λx:aB=>x.id) N q.L9 0;have Mb:=ml q N A2 ZbX S.I.fr.own.at;generalize place (q.L9.map (λx=>x.id)) N 0=z at*;go_wp2_with(refine eT _ S.I.fr.box ?_);refine Mb.mono ?_;clear Mb;rintro e A3 ⟨rfl,hb2⟩;replace S:=aA (S.I.reads hb2);clear hb2 o0 o1;obtain⟨o0,-,-,-⟩:=S.I.op.cells;simp only at o0;rcases hpf with⟨hz,hf⟩|⟨m,y,hz,hm,hid,hf⟩
 .subst hz
  have HE:da (dE (7,N,M,s) bE x.id q.pure=bu 3 x.id q.pure):=by show dE (7,N,M,s) bE x.id q.pure=_;unfold dE;rw[show cg (λx:aB=>x.id) N q.pure.L9=n_ from hf]
  exact Zbj
 rw[Li]at hz;subst hz;have afO:decide ((m:Int)<0)=false:=decide_eq_false zw;have HM:da (q.L9[m]? =o_ y/\y.id=N/\cg (λx:aB=>x.id) N q.L9=o_ y):=⟨hm,hid,hf⟩
 have hml:=(Lj.1 hm).1;have j0:(0:Int)<=(m:Int):=zw
 have j1:(m:Int)<(q.L9.length:Int):=zw
 obtain⟨Y5,iE,hat⟩:=j4 S.I.fr.own.at.2.2.1 hm;have m4:=S.I.fr.box.cells.2.2.2.2.1;rw[iE]at m4;have HG:da (q.ay=o_ ⟨Y5,0,n_⟩):=iE;have d1:=hat.2;clear hm hid hf hml hat iE;cases hu:y.up
 .rw [hu]at d1
  have HE:da (dE (7,N,M,s) bE x.id q.pure=mX 4 (7,N,M,s) bE x.id q.pure):=Zc9
  clear hu;have Mb:=oR q n bj x 4 bE (7,N,M,s) A3 S.I.fr.own S.I.low HR.I.1 HR.I.2.1 ZbQ Zde HR.I.2.2.2.2.1 HR.I.2.2.2.2.2;go_wp2_with(first|(refine eT _ S.I.fr.box ?_)|(refine LS rfl 217 (.tmp 6) rfl (w.heap.size+1) (by rfl) 217 (j9 (7,N,M,s)) (0,0) _ S.I.op underlying217 rfl ZbG ?_));exact gt
 .rw [hu]at d1
  have HE:da (dE (7,N,M,s) bE x.id q.pure=bu 0 x.id q.pure):=Zc9
  clear hu;have Mb:=bB (n:=n) 0 S.I.fr.own S.I.low HR.I.1 HR.I.2.1 ZbQ;exact Zbl
def Ab:aq4 184 6 dE:=by
 refine aqf λq n bj x bE N M s w f1 f3 f4 HR HF S=>?_
 go_enter func184,ntmps184
 go_upto_region 1 with fail;generalize((w.alloc (c_ q.cells 46)).alloc (c_ (j9 (6,N,M,s)) 217)).alloc (c_ ar 46)=A at*;obtain⟨-,o1,-,-⟩:=S.I.op.cells;simp only at o1;have Mb:=lw q N A ZbX S.I.fr.own.at;go_wp2_with(refine eT _ S.I.fr.box ?_);refine Mb.mono ?_;clear Mb;rintro e A2 ⟨rfl,hb2⟩;replace S:=aA (S.I.reads hb2);clear hb2 o1;generalize place (q.aj.map (λx=>x.id)) N 0=z0 at*;obtain⟨o0,o1,-,-⟩:=S.I.op.cells;simp only at o0 o1;have hpf:=ef (num:=λx:aB=>x.id) N q.L9 0;have Mb:=ml q N A2 ZbX S.I.fr.own.at;generalize place (q.L9.map (λx=>x.id)) N 0=z at*;go_wp2_with(refine eT _ S.I.fr.box ?_);refine Mb.mono ?_;clear Mb;rintro e A3 ⟨rfl,hb2⟩;replace S:=aA (S.I.reads hb2);clear hb2 o0 o1;obtain⟨o0,-,-,-⟩:=S.I.op.cells;simp only at o0;rcases hpf with⟨hz,hf⟩|⟨m,y,hz,hm,hid,hf⟩
 .subst hz
  have HE:da (dE (6,N,M,s) bE x.id q.pure=bu 3 x.id q.pure):=by show dE (6,N,M,s) bE x.id q.pure=_;unfold dE;rw[show cg (λx:aB=>x.id) N q.pure.L9=n_ from hf]
  exact Zbj
 rw[Li]at hz;subst hz;have afO:decide ((m:Int)<0)=false:=decide_eq_false zw;have HM:da (q.L9[m]? =o_ y/\y.id=N/\cg (λx:aB=>x.id) N q.L9=o_ y):=⟨hm,hid,hf⟩
 have hml:=(Lj.1 hm).1;have j0:(0:Int)<=(m:Int):=zw
 have j1:(m:Int)<(q.L9.length:Int):=zw
 obtain⟨Y5,iE,hat⟩:=j4 S.I.fr.own.at.2.2.1 hm;have m4:=S.I.fr.box.cells.2.2.2.2.1;rw[iE]at m4;have HG:da (q.ay=o_ ⟨Y5,0,n_⟩):=iE;have HE:da (dE (6,N,M,s) bE x.id q.pure=bu 0 x.id (gL N false q.pure)):=by show dE (6,N,M,s) bE x.id q.pure=_;unfold dE;rw[show cg (λx:aB=>x.id) N q.pure.L9=o_ y from HM.I.2.2];rfl
 clear hm hid hf hml hat iE;obtain⟨s1,⟨u,c⟩,f⟩:=rv (n:=m) (j:=1) (v:=b_ false) (y:={y with up:=false}) S.I.fr.own HM.I.1 HG.I (by decide) rfl;replace S:=aA (S.I.call s1);clear s1;go_upto_region 29 with fail;generalize A3.setCell ⟨Y5,m*2+1,n_⟩ (b_ false)=C at*;clear m4 c f u afO j0 j1 o0;have hq:({q with L9:=q.L9.set m {y with up:=false}}:af).pure=gL N false q.pure:=by show({q.pure with L9:=q.L9.set m {y with up:=false}}:aE)=_;unfold gL;rw[jF (num:=λx:aB=>x.id) (db HR.I.1.L9).2 HM.I.1 HM.I.2.1];rfl
 have Hv:af.cells ({q with L9:=q.L9.set m {y with up:=false}}:af)=q.cells:=ZcC
 have hr2:aQ (gL N false q.pure):=kw HR.I.1;rw[<-hq]at hr2;have Mb:=bB (n:=n) 0 S.I.fr.own S.I.low hr2 HR.I.2.1 ZbQ;rw[hq,Hv]at Mb;clear hq Hv hr2;exact Zbl
def Ey:aq4 184 5 dE:=by
 refine aqf λq n bj x bE N M s w f1 f3 f4 HR HF S=>?_
 go_enter func184,ntmps184
 go_upto_region 1 with fail;generalize((w.alloc (c_ q.cells 46)).alloc (c_ (j9 (5,N,M,s)) 217)).alloc (c_ ar 46)=A at*;obtain⟨-,o1,-,-⟩:=S.I.op.cells;simp only at o1;have Mb:=lw q N A ZbX S.I.fr.own.at;go_wp2_with(refine eT _ S.I.fr.box ?_);refine Mb.mono ?_;clear Mb;rintro e A2 ⟨rfl,hb2⟩;replace S:=aA (S.I.reads hb2);clear hb2 o1;generalize place (q.aj.map (λx=>x.id)) N 0=z0 at*;obtain⟨o0,o1,-,-⟩:=S.I.op.cells;simp only at o0 o1;have hpf:=ef (num:=λx:aB=>x.id) N q.L9 0;have Mb:=ml q N A2 ZbX S.I.fr.own.at;generalize place (q.L9.map (λx=>x.id)) N 0=z at*;go_wp2_with(refine eT _ S.I.fr.box ?_);refine Mb.mono ?_;clear Mb;rintro e A3 ⟨rfl,hb2⟩;replace S:=aA (S.I.reads hb2);clear hb2 o0 o1;obtain⟨o0,o1,-,-⟩:=S.I.op.cells;simp only at o0 o1;rcases hpf with⟨hz,hf⟩|⟨m,y,hz,hm,hid,hf⟩
 .subst hz
  have HE:da (dE (5,N,M,s) bE x.id q.pure=bu 3 x.id q.pure):=by show dE (5,N,M,s) bE x.id q.pure=_;unfold dE;rw[show cg (λx:aB=>x.id) N q.pure.L9=n_ from hf]
  exact Zbj
 rw[Li]at hz;subst hz;have afO:decide ((m:Int)<0)=false:=decide_eq_false zw;have HM:da (q.L9[m]? =o_ y/\y.id=N/\cg (λx:aB=>x.id) N q.L9=o_ y):=⟨hm,hid,hf⟩
 have hml:=(Lj.1 hm).1;have j0:(0:Int)<=(m:Int):=zw
 have j1:(m:Int)<(q.L9.length:Int):=zw
 obtain⟨Y5,iE,hat⟩:=j4 S.I.fr.own.at.2.2.1 hm;have m4:=S.I.fr.box.cells.2.2.2.2.1;rw[iE]at m4;have HG:da (q.ay=o_ ⟨Y5,0,n_⟩):=iE;have HE:da (dE (5,N,M,s) bE x.id q.pure=bu 0 x.id (ff (λy=>y) 4 N (gL N true q.pure))):=by show dE (5,N,M,s) bE x.id q.pure=_;unfold dE;rw[show cg (λx:aB=>x.id) N q.pure.L9=o_ y from HM.I.2.2];rfl
 clear o1;clear hm hid hf hml hat iE;obtain⟨s1,⟨u,c⟩,f⟩:=rv (n:=m) (j:=1) (v:=b_ true) (y:={y with up:=true}) S.I.fr.own HM.I.1 HG.I (by decide) rfl;replace S:=aA (S.I.call s1);clear s1;go_upto_region 20 with fail;generalize A3.setCell ⟨Y5,m*2+1,n_⟩ (b_ true)=C at*;clear m4 c f u afO j0 j1 o0;have hq:({q with L9:=q.L9.set m {y with up:=true}}:af).pure=gL N true q.pure:=by show({q.pure with L9:=q.L9.set m {y with up:=true}}:aE)=_;unfold gL;rw[jF (num:=λx:aB=>x.id) (db HR.I.1.L9).2 HM.I.1 HM.I.2.1];rfl
 have Hv:af.cells ({q with L9:=q.L9.set m {y with up:=true}}:af)=q.cells:=ZcC
 have hr2:aQ (gL N true q.pure):=kw HR.I.1;obtain⟨q1,hq1⟩:∃q1:af,q1={q with L9:=q.L9.set m {y with up:=true}}:=⟨_,rfl⟩
 rw[<-hq1]at hq Hv S;rw[<-hq]at hr2;have HQ:da (q1.pure=gL N true q.pure/\q1.cells=q.cells/\aQ q1.pure/\q1.L8[n]? =o_ x/\q1.next<=999999990):=⟨hq,Hv,hr2,by rw[hq1];exact HR.I.2.1,by rw[hq1];exact HR.I.2.2.2.1⟩
 have Mb:=ij q1 4 N C ZfQ S.I.fr.own.at;rw[Hv]at Mb;clear hq Hv hr2 hq1;obtain⟨-,o1,-,-⟩:=S.I.op.cells;simp only at o1;go_wp2_with(refine eT _ S.I.fr.box ?_);refine Mb.mono ?_;clear Mb o1;rintro e afl ⟨⟨z,rfl,gV⟩,hb2⟩;replace S:=aA (S.I.reads hb2);clear hb2;have afW:da (Xf w bj q q1 q1 (5,N,M,s) afl):=⟨⟨by have h5:=S.I.fr.box;unfold av at h5⊢;exact h5.trans (congrArg (λc=>o_ (Obj.cells c 46 (0,0))) HQ.I.2.1.symm),S.I.fr.own,S.I.fr.kept,S.I.fr.far,S.I.fr.lo,S.I.fr.sz⟩,S.I.op,S.I.an⟩
 have HI:=aA (If.start (f:=λy=>y) (n:=n) (x:=x.toaD) HQ.I.2.2.1 (mj HQ.I.2.2.2.1) HQ.I.2.2.2.2 gV);rw[HQ.I.1]at HI;clear gV S;go_wp2_with fail
 go_loopg [11] ((gL N true q.pure).L8.filter (ie 4 N)).length (λk b wr=>∃(qk:af)(z:Int),b=i_ j_ z/\da (If (λy=>y) 4 N (ff (λy=>y) 4 N (gL N true q.pure)) n x.toaD k qk z/\Xf w bj q qk qk (5,N,M,s) wr))
 case atStart=>exact⟨q1,z,rfl,HI.I,afW.I⟩
 case round=>
  obtain⟨qk,z,rfl,HK⟩:=hrel;have S:=aA HK.I.2;rcases pp HK.I.1.best with⟨hz,hw⟩|⟨i,v,hz,hi,hw⟩
  .have afO:decide (z>=0)=false:=decide_eq_false zw
   obtain⟨x2,hx2,sw⟩:=tQ HK.I.1.pos;have HT:da (bu 0 x2.id qk.pure=dE (5,N,M,s) bE x.id q.pure):=Zdu
   have Mb:=bB (n:=n) 0 S.I.fr.own S.I.low HK.I.1.r hx2 ZbZ;clear hz hw hx2 sw;go_wp2_with(refine eT _ S.I.fr.box ?_);refine Mb.mono ?_;clear Mb;rintro e A2 ⟨q2,rfl,hp,ht⟩;replace S:=aA (S.I.call ht);have HP:da (q2.pure=_):=hp;clear hp ht;go_wp2_with(refine ec _ _ q2.cells S.I.an ?_);refine gZ results184 S.I.an ?_;exact⟨q2,rfl,HP.I.trans HT.I,S.I.done _⟩
  subst hz;have afO:decide ((i:Int)>=0)=true:=decide_eq_true zw;have HW:da (jl 4 N qk.pure.L8=o_ v.toaD/\qk.L8[i]? =o_ v/\v.Md=4):=⟨hw,hi,(ft hw).2.1⟩
  clear hw hi;have Mb:=lP (n:=i) S.I.fr.own S.I.low HK.I.1.r HW.I.2.1 Zcv (by have:=HK.I.1.nx;omega);go_wp2_with(refine eT _ S.I.fr.box ?_);refine Mb.mono ?_;clear Mb afO;rintro e D ⟨q2,rfl,hp,ht⟩;replace S:=aA (S.I.call ht);have HJ:=aA (HK.I.1.step (q2:=q2) HR.I.2.2.1 ⟨by decide,by decide⟩ (.inl rfl) HW.I.1 hp);clear hp ht;have S2:=aA S.I.put;go_upto_region 22 with(refine ec _ _ q2.cells S.I.fr.box ?_);generalize D.setRow w.heap.size q2.cells=af3 at*;clear S;have S:=S2;clear S2;obtain⟨-,o1,-,-⟩:=S.I.op.cells;simp only at o1;have Mb:=ij q2 4 N af3 ZfP S.I.fr.own.at;go_wp2_with(refine eT _ S.I.fr.box ?_);refine Mb.mono ?_;clear Mb o1;rintro e afY ⟨⟨z2,rfl,gV⟩,hb2⟩;exact Zaa
end
end Go.Proofs.YtckenjkcmajicaaGreat
