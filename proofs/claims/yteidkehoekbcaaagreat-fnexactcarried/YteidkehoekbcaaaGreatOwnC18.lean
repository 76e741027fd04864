/- What the proof leans on, part 18. -/
import Derived.Test.YteidkehoekbcaaaGreatOwnC17
set_option maxRecDepth 100000
set_option maxHeartbeats 8000000
open Array renaming getElem?_eq_some_iff->J2
open Go renaming heap_alloc_new->Kj,wpAnyH_done->K3,wp_at_succ->Kd,wp_at_zero->Kc,wp_region_held_drew->Kr
open Go.Proofs.Tryz renaming prog->J3
open Go.RowKit.Below renaming refl->Kp
open Go.Value.slice renaming injEq->LD
open List renaming getElem?_cons_succ->QC,getElem?_cons_zero->QI,length_append->Lf,mem_append_right->Ly,mem_cons->Kt,mem_flatMap->Rt,mem_map->Lr,mem_of_getElem?->KA,nodup_append->Kf
open Nat renaming le_refl->Ki,zero_le->Ky
open Option.some renaming inj->KC,injEq->LF

namespace Go.Proofs.YteidkehoekbcaaaGreat
section
open Go.RowKit Go.Maps
abbrev eA.wp (k:eA) (l:List af):eA:= { k with parts:=l }
structure abx (w:World) (base:Nat) (k:eA) (l:List af) (B:List (Nat × Array Value × TypeId)) (W:World):Prop where
 own:gp W base (k.wp l)
 len:l.length=k.parts.length
 kept:aI w W k.Mc
 lo: ∀ g∈k.Mc,g < w.heap.size
 far: ∀ g∈(k.wp l).Mc,g∈k.Mc∨w.heap.size≤g
 box: ∀ x∈B,W.heap[x.1]? =some (.cells x.2.1 x.2.2 (0,0))∧x.1∉(k.wp l).Mc
section
variable {w W V:World} {base n m gs c:Nat} {k:eA} {l:List af} {B:List (Nat × Array Value × TypeId)} {q q2:af} {x:aM} {its:List ByteArray} {a:Option Addr}
theorem abx.below (h:abx w base k l B W) (hb:Below W.heap.size W V):abx w base k l B V:=
 ⟨h.own.below hb,h.len,h.kept.trans (.dI hb),h.lo,h.far,fun x hx=>⟨(hb.block _ (J2.1 (h.box x hx).1).1).trans (h.box x hx).1,(h.box x hx).2⟩⟩
theorem abx.put (h:abx w base k l B W) (cs:Array Value) (T:TypeId):abx w base k l ((W.heap.size,cs,T) :: B) (W.alloc (.cells cs T)):=by
 have h2:=h.below ((Kp _ _).alloc (Ki _) (.cells cs T));refine ⟨h2.own,h2.len,h2.kept,h2.lo,h2.far,fun x hx=> ?_⟩;rcases Kt.1 hx with rfl | hx
 ·exact ⟨Kj _ _,fun hm=>by have:=(h.own.lt hm).2; omega⟩
 ·exact h2.box x hx
theorem abx.less {B':List (Nat × Array Value × TypeId)} (h:abx w base k l B W) (hs: ∀ x∈B',x∈B):abx w base k l B' W:=⟨h.own,h.len,h.kept,h.lo,h.far,fun x hx=>h.box x (hs x hx)⟩
theorem abx.row (h:abx w base k l B W):(k.wp l).row=k.row:=by simp [eA.row,h.len]
theorem abx.ju (h:abx w base k l B W) (hx:l[n]? =some q) (ht:yr W base q q2 V) (hc:q2.cells=q.cells):abx w base k (l.set n q2) B V:=by
 obtain ⟨h1,h2,h3⟩:=h.own.turnAt hx ht hc;have hsz:=h.kept.size;refine ⟨h1,by rw [List.length_set]; exact h.len,⟨h3.os.trans h.kept.os,h3.tape.trans h.kept.tape,h3.output.trans h.kept.output,Nat.le_trans hsz h3.size,fun g hg hn=> ?_⟩,h.lo,fun g hg=> ?_,fun y hy=> ?_⟩
 ·refine (h3.same g (by omega) fun hm=> ?_).trans (h.kept.same g hg hn)
  rcases h.far g hm with h5 | h5
  ·exact hn h5
  ·omega
 ·rcases h2 g hg with h5 | h5
  ·exact h.far g h5
  ·exact .inr (by omega)
 ·obtain ⟨b1,b2⟩:=h.box y hy
  have hlt:=(J2.1 b1).1;refine ⟨(h3.same _ hlt b2).trans b1,fun hm=> ?_⟩;rcases h2 _ hm with h5 | h5
  ·exact b2 h5
  ·omega
theorem abx.Ma (h:abx w base k l B W) (hb:Below W.heap.size W V) (hq:l[n]? =some q) (hx:q.ai[m]? =some x) (ha:q.aK=some ⟨gs,0,none⟩) (ho:V.ownsRow base 9 1 (.slice a its.length c) its.length (bT.flat its)) (hf: ∀ g∈blk a,W.heap.size≤g):
  abx w base k (l.set n (abS q m x its a c)) B (V.setCell ⟨gs,m * 5+4,none⟩ (.slice a its.length c))∧(∃ u,V.cell? ⟨gs,m * 5+4,none⟩=some u)∧V.frozen? ⟨gs,m * 5+4,none⟩=false:=by
 obtain ⟨h1,h2,h3⟩:=pg (h.own.mine q (KA hq)) (aI.dI hb) hx ha ho (fun g hg=> .inr (hf g hg));exact ⟨h.ju hq h1 ac1,h2,h3⟩
theorem abV (h:gp W base (k.wp l)) (hq:l[n]? =some q) (hx:q.ai[m]? =some x): ∃ aaB gs,k.qn=some ⟨aaB,0,none⟩∧q.aK=some ⟨gs,0,none⟩∧W.cell? ⟨aaB,n * 8+7,none⟩=some (.slice (some ⟨gs,0,none⟩) q.ai.length q.aV)∧aM.At W gs m x∧Row W x.ak (bT.flat x.Ma)∧aaB∈(k.wp l).Mc∧gs∈(k.wp l).Mc∧aaB≠gs:=by
 obtain ⟨aaB,h1,⟨-,-,-,-,-,-,-,c7⟩,hat⟩:=ic (l:=l) h.at.parts hq;obtain ⟨gs,h2,h3⟩:=lm hat.2.2.2.2.2 hx;rw [h2] at c7;have m1:aaB∈blk k.qn:=by rw [show k.qn=_ from h1]; simp [blk]
 have m2:gs∈l.flatMap af.Mc:=Rt.2 ⟨q,KA hq,by unfold af.Mc; rw [h2]; simp [blk]⟩;refine ⟨aaB,gs,h1,h2,c7,h3,nJ hat.2.2.2.2.2 hx,Ly _ (List.mem_append_left _ m1),Ly _ (Ly _ (Ly _ m2)),fun e=> ?_⟩;exact (h.apart.2.1 aaB m1).2 (e ▸ m2)
end
theorem adu {W:World} {base j:Nat} {q:af} {x:aM} (h:ap W base q) (hx:q.ai[j]? =some x):x.Ma.length≤x.aq:=by
 have h5:W.ownsRow base 9 1 (.slice x.ak x.Ma.length x.aq) x.Ma.length (bT.flat x.Ma):=h.eR x (KA hx);rcases h5.2 with ⟨h6,h7⟩ | ⟨g,cap,cur,h6,-,-,h7,-⟩
 ·rw [h7]; exact Ky _
 ·simp only [LD] at h6; rw [h6.2.2]; exact h7
theorem set_id {l:List af} {n m:Nat} {q:af} {x:aM} {its:List ByteArray} {a:Option Addr} {c:Nat} (h:l[n]? =some q):(l.map (·.id)).set n (abS q m x its a c).id=l.map (·.id):=by
 have hn:n < (l.map (·.id)).length:=by rw [List.length_map]; exact (List.getElem?_eq_some_iff.1 h).1
 have h1:(l.map (·.id))[n] =q.id:=by
  have h2:(l.map (·.id))[n]? =some q.id:=by rw [List.getElem?_map,h]; rfl
  rw [List.getElem?_eq_getElem hn] at h2;exact KC h2
 show (l.map (·.id)).set n q.id=_
 rw [← h1];exact List.set_getElem_self hn
theorem ada {α:Type} {f:α→List Nat} : ∀ {l:List α} {i j:Nat} {x y:α} {g:Nat},(l.flatMap f).Nodup→l[i]? =some x→l[j]? =some y→i≠j→g∈f x→g∈f y→False
 | [],i,_,_,_,_,_,h,_,_,_,_=>by simp at h
 | z :: r,0,0,_,_,_,_,_,_,hn,_,_=>hn rfl
 | z :: r,0,j+1,x,y,g,h,hx,hy,_,h1,h2=>by
  simp only [QI,LF] at hx;subst hx;simp only [QC] at hy;rw [List.flatMap_cons] at h;exact (Kf.1 h).2.2 g h1 g (Rt.2 ⟨y,KA hy,h2⟩) rfl
 | z :: r,i+1,0,x,y,g,h,hx,hy,_,h1,h2=>by
  simp only [QI,LF] at hy;subst hy;simp only [QC] at hx;rw [List.flatMap_cons] at h;exact (Kf.1 h).2.2 g h2 g (Rt.2 ⟨x,KA hx,h1⟩) rfl
 | z :: r,i+1,j+1,x,y,g,h,hx,hy,hn,h1,h2=>by
  simp only [QC] at hx hy;rw [List.flatMap_cons] at h;exact ada (Kf.1 h).2.1 hx hy (fun e=>hn (by rw [e])) h1 h2
theorem adv {W:World} {base:Nat} {k:eA} (h:gp W base k):(k.parts.flatMap af.Mc).Nodup:=
 (Kf.1 (Kf.1 (Kf.1 h.nodup).2.1).2.1).2.1
theorem adA {q:af} {gs:Nat} (h:q.aK=some ⟨gs,0,none⟩):gs∈q.Mc:=by unfold af.Mc; rw [h]; simp [blk]
theorem adI {q:af} {j:Nat} {x:aM} {g:Nat} (hx:q.ai[j]? =some x) (hg:g∈blk x.ak):g∈q.Mc:=by
 have:g∈q.ai.filterMap aU.bt:=dP.2 ⟨x,KA hx,fZ.1 hg⟩
 simp only [af.Mc,List.mem_append];exact .inr (.inr (.inr (.inr (.inr (.inr (.inr (.inr this)))))))
theorem adL {W:World} {base n1 n2 j gs:Nat} {k:eA} {l:List af} {q1 q2:af} {x:aM} (h:gp W base (k.wp l)) (h1:l[n1]? =some q1) (h2:l[n2]? =some q2) (hn:n1≠n2) (hx:q1.ai[j]? =some x) (hg:gs∈blk x.ak) (ha:q2.aK=some ⟨gs,0,none⟩):False:=
 ada (l:=l) (adv h) h1 h2 hn (adI hx hg) (adA ha)
section
variable {k:kd} {ps:List aE}
theorem ac0 (h:k.Small) (hc:abz k.parts ps):kd.Small { k with parts:=ps } :=by
 have hlen:ps.length=k.parts.length:=by have:=congrArg List.length hc.acE; simpa using this
 refine ⟨h.Ts,by show ps.length≤_; rw [hlen]; exact h.sC,h.w8,h.win,fun p hp=> ?_,h.eC⟩;have hm:abQ p∈k.parts.map abQ:=by rw [← hc.acE]; exact Lr.2 ⟨p,hp,rfl⟩
 obtain ⟨p0,hp0,e⟩:=Lr.1 hm;have h0:=h.parts p0 hp0;have e1:p.L8=p0.L8:=(congrArg aE.L8 e).symm;have e2:p.aj=p0.aj:=(congrArg aE.aj e).symm;have e3:p.L9=p0.L9:=(congrArg aE.L9 e).symm;have e4:p.ag=p0.ag:=(congrArg aE.ag e).symm;have e5:p.ae=p0.ae:=(congrArg aE.ae e).symm;have e6:p.ai.map abL=p0.ai.map abL:=(congrArg aE.ai e).symm;have e7:p.ai.length=p0.ai.length:=by have:=congrArg List.length e6; simpa using this
 refine ⟨by rw [e1]; exact h0.dl,by rw [e2]; exact h0.fx,by rw [e3]; exact h0.cD,by rw [e4]; exact h0.cC,by rw [e5]; exact h0.cb,by rw [e7]; exact h0.dH,by rw [e1]; exact h0.L8,by rw [e2]; exact h0.aj,by rw [e3]; exact h0.L9,by rw [e4]; exact h0.ag,by rw [e5]; exact h0.ae,fun x hx=> ?_⟩;have hm:abL x∈p0.ai.map abL:=by rw [← e6]; exact Lr.2 ⟨x,hx,rfl⟩
 obtain ⟨x0,hx0,e8⟩:=Lr.1 hm;have e9:x.id=x0.id:=(congrArg dS.id e8:(abL x0).id=(abL x).id).symm;have hr:=abT (hc.right p hp x hx);refine ⟨by rw [e9]; exact (h0.ai x0 hx0).1,by have:=hr.2.1; have:=hr.2.2.2.2; omega,fun s hs=> ?_⟩
 have:=hr.2.2.2.1 s hs
 simp only [bw,Bool.and_eq_true,decide_eq_true_eq] at this;omega
end
end
section
open Go.RowKit Go.Maps
attribute [local go_sem ↓] Kc Kd
structure PBx (W:World) (base g:Nat) (x:aM):Prop where
 box:W.heap[g]? =some (.cells (cW x) 85 (0,0))
 mine:W.ownsRow base 9 1 (.slice x.ak x.Ma.length x.aq) x.Ma.length (bT.flat x.Ma)
theorem PBx.same {W V:World} {base g:Nat} {x:aM} (h:PBx W base g x) (h1:V.heap[g]? =W.heap[g]?) (h2: ∀ b∈blk x.ak,V.heap[b]? =W.heap[b]?):PBx V base g x:=⟨h1.trans h.box,aL h.mine h2⟩
theorem PBx.below {W V:World} {base g:Nat} {x:aM} (h:PBx W base g x) (hb:Below W.heap.size W V):PBx V base g x:=h.same (hb.block _ (J2.1 h.box).1) fun _ hb'=>hb.block _ (cf h.mine hb').2
def acg (x:aM) (its:List ByteArray) (a:Option Addr) (c:Nat):aM:= { x with Ma:=its,ak:=a,aq:=c }
theorem PBx.store {V:World} {base g c:Nat} {x:aM} {its:List ByteArray} {a:Option Addr} (h:V.heap[g]? =some (.cells (cW x) 85 (0,0))) (ho:V.ownsRow base 9 1 (.slice a its.length c) its.length (bT.flat its)) (hg:g∉blk a):PBx (V.setCell ⟨g,4,none⟩ (.slice a its.length c)) base g (acg x its a c):=
 ⟨cx (i:=4) h,aL ho fun _ hb=>aH fun e=>hg (e ▸ hb)⟩
def abO (s t:dS):dS × dS:=if s.Mf then (abZ (s.Ma.drop (min s.Ma.length (ab4 t))) s,abZ (t.Ma ++ s.Ma.take (min s.Ma.length (ab4 t))) t) else if s.Ma.length=0 then (s,t) else (s,abZ (s.Ma.take 1) t)
def ab8 (w:World) (o:gi) (x y:aM) (abn abC:Nat) (e:Ending) (w':World):Prop:=e= .returned (.tuple #[])∧ ∃ x' y':aM,PBx w' abn o.s x'∧PBx w' abC o.t y'∧(x'.todS,y'.todS)=abO x.todS y.todS∧aI w w' (o.s :: o.t :: (blk x.ak ++ blk y.ak))∧(∀ g∈blk x'.ak,g∈blk x.ak)∧ ∀ g∈blk y'.ak,g∈blk y.ak∨w.heap.size≤g
theorem abN {W:World} {B:Nat} {o:gi} (h:W.heap[B]? =some (.cells (fz o) 205 (0,0))):W.cell? ⟨B,4,none⟩=some (.pointer (some ⟨o.s,0,none⟩))∧W.cell? ⟨B,5,none⟩=some (.pointer (some ⟨o.t,0,none⟩)):=by
 simp [World.cell?,h]
structure LkF (w:World) (o:gi) (x y:aM) (abn abC:Nat):Prop where
 ne:o.s≠o.t
 hx: ∀ g∈blk x.ak,g∉blk y.ak∧g≠o.s∧g≠o.t
 hy: ∀ g∈blk y.ak,g≠o.s∧g≠o.t
 lo:abn≤w.heap.size∧abC≤w.heap.size
 px:dj x.todS=true
 abw:dj y.todS=true
 lt:o.s < w.heap.size∧o.t < w.heap.size
theorem acN (o:gi) (x y:aM) (abn abC:Nat) (w:World) (hs:PBx w abn o.s x) (ht:PBx w abC o.t y) (hf:LkF w o x y abn abC):
  Calls J3 122 #[.agg (fz o)] w fun e w'=>ab8 w o x y abn abC e w':=by
 have HF:=aA hf;have hz:Below w.heap.size w (w.alloc (.cells (fz o) 205)):=(Kp _ _).alloc (Ki _) _;have HB:Hid ((w.alloc (.cells (fz o) 205)).heap[w.heap.size]? =some (.cells (fz o) 205 (0,0))∧PBx (w.alloc (.cells (fz o) 205)) abn o.s x∧PBx (w.alloc (.cells (fz o) 205)) abC o.t y∧Below w.heap.size w (w.alloc (.cells (fz o) 205))):=⟨Kj _ _,hs.below hz,ht.below hz,hz⟩
 have HI:Hid (PBx w abn o.s x∧PBx w abC o.t y):=⟨hs,ht⟩
 clear hs ht hf hz
 go_enter Tryz.func122,Tryz.ntmps122
 go_upto_region 1 with fail;generalize w.alloc (.cells (fz o) 205)=W0 at *;obtain ⟨l4,l5⟩:=abN HB.I.1;obtain ⟨u0,u1,u2,u3,u4⟩:=gE HB.I.2.1.box;obtain ⟨v0,v1,v2,v3,v4⟩:=gE HB.I.2.2.1.box;cases ab6:x.Mf
 ·rw [ab6] at u2
  by_cases hzl:x.Ma.length=0
  ·have HZ:Hid (abO x.todS y.todS=(x.todS,y.todS)):=by show _=_; unfold abO; simp only [ab6]; rw [if_neg (by decide),if_pos hzl]
   have hz2:decide (0 < x.Ma.length)=false:=decide_eq_false (by omega);have hz1: ¬ 0 < x.Ma.length:=by omega
   clear hzl ab6;go_wp2
   go_end0
   exact ⟨rfl,x,y,HB.I.2.1,HB.I.2.2.1,HZ.I.symm,aI.dI HB.I.2.2.2,fun g hg=>hg,fun g hg=> .inl hg⟩
  ·have hpx:=abT HF.I.px
   have hl1:x.Ma.length=1:=by have h5:=hpx.2.2.1 ab6; have h6:=hpx.2.2.2.2; rw [show x.todS.max=x.max from rfl] at *; omega
   have HZ:Hid (abO x.todS y.todS=(x.todS,abZ x.Ma y.todS)):=by show _=_; unfold abO; simp only [ab6]; rw [if_neg (by decide),if_neg hzl,List.take_of_length_le (by omega)]
   have hz2:decide (0 < x.Ma.length)=true:=decide_eq_true (by omega);have hz1:0 < x.Ma.length:=by omega
   obtain ⟨abo,hgi⟩: ∃ abo,x.ak=some ⟨abo,0,none⟩:=by
    rcases HB.I.2.1.mine.2 with ⟨-,h6⟩ | ⟨g,cap,cur,h6,-⟩
    ·omega
    ·simp only [LD] at h6
     exact ⟨g,h6.1⟩
   have HGI:=aA hgi;have Jt:=aA hl1;clear hzl ab6 hpx hl1 hgi;go_upto_region 3 with fail;clear l4 l5 u0 u1 u2 u3 u4 v0 v1 v2 v3 v4 hz1 hz2;have HS:Hid (W0.drew.heap[w.heap.size]? =some (.cells (fz o) 205 (0,0))∧W0.drew.heap[o.s]? =some (.cells (cW x) 85 (0,0))):=⟨HB.I.1,HB.I.2.1.box⟩
   refine Kr (S:=fun W=>W.heap[w.heap.size]? =some (.cells (fz o) 205 (0,0))∧W.heap[o.s]? =some (.cells (cW x) 85 (0,0))) (by kernel_rfl) HS.I (fun _=> ?_);have pI:Below W0.heap.size W0 W0.drew:=(Kp _ _).drew;replace HB:Hid (PBx W0.drew abn o.s x∧PBx W0.drew abC o.t y∧Below w.heap.size w W0.drew):=⟨HB.I.2.1.below pI,HB.I.2.2.1.below pI,HB.I.2.2.2.trans (pI.mono HB.I.2.2.2.size)⟩
   clear pI;generalize W0.drew=YI at *;refine tt 0 HS.I ?_;refine tt 1 HS.I ?_ (hy:=fun w0 hS0=>by obtain ⟨l4,l5⟩:=abN hS0.1; go_simp; try with_reducible rfl);refine tt 2 HS.I ?_;refine tt 3 HS.I ?_ (hy:=fun w0 hS0=>by obtain ⟨l4,l5⟩:=abN hS0.1; go_simp; try with_reducible rfl);refine tt 4 HS.I ?_;refine tt 5 HS.I ?_;refine tt 6 HS.I ?_ (hy:=fun w0 hS0=>by obtain ⟨u0,u1,u2,u3,u4⟩:=gE hS0.2; rw [HGI.I] at u4; go_simp; try with_reducible rfl)
   try simp only [pt,sb,s0,s1]
   refine L7 7 (fun Q hQ=> ?_);go_wp2_with fail;refine (acV ⟨abo,0,none⟩ x.Ma x.aq YI (by have:=Jt.I; omega) (by rw [← HGI.I]; exact nP HB.I.1.mine)).mono ?_;rintro e V1 ⟨a',c',rfl,ho,hb⟩;have hvs:=HB.I.2.2.size;have hlt:=HF.I.lt;have HV:Hid ((V1.heap[w.heap.size]? =some (.cells (fz o) 205 (0,0))∧V1.heap[o.s]? =some (.cells (cW x) 85 (0,0)))∧PBx V1 abn o.s x∧V1.heap[o.t]? =some (.cells (cW y) 85 (0,0))∧V1.ownsRow YI.heap.size 9 1 (.slice a' x.Ma.length c') x.Ma.length (bT.flat x.Ma)∧Below YI.heap.size YI V1):=⟨⟨(hb.block _ (J2.1 HS.I.1).1).trans HS.I.1,(hb.block _ (J2.1 HS.I.2).1).trans HS.I.2⟩,HB.I.1.below hb,(hb.block _ (by omega)).trans HB.I.2.1.box,ho,hb⟩
   clear ho hb hvs hlt;refine hQ.out _ _ HV.I.1 (fun _=> ?_);clear hQ Q
   try simp only [pt,sb,s0,s1]
   refine tt 8 HV.I.1 ?_;refine tt 9 HV.I.1 ?_;refine L7 10 (fun Q hQ=> ?_);obtain ⟨-,-,-,-,v4⟩:=gE HV.I.2.2.1;have f4:V1.frozen? ⟨o.t,4,none⟩=false:=by have h5:=HV.I.2.2.1; simp [World.frozen?,h5,cW]
   go_wp2_with fail;clear v4 f4;have hvs:=HB.I.2.2.size;have hlt:=HF.I.lt;have hlo:=HF.I.lo;have hnt: ∀ b,b≠o.t→(V1.setCell ⟨o.t,4,none⟩ (.slice a' x.Ma.length c')).heap[b]? =V1.heap[b]? :=fun b hb=>aH hb
   refine hQ.out _ _ ⟨(hnt _ (by omega)).trans HV.I.1.1,(hnt _ HF.I.ne).trans HV.I.1.2⟩ (fun _=> ?_);clear hQ Q;refine K3 (by kernel_rfl) ?_ _;have HE:Hid (ab8 w o x y abn abC (.returned (.tuple #[])) (V1.setCell ⟨o.t,4,none⟩ (.slice a' x.Ma.length c'))):=by
    have hlow: ∀ b∈blk a',YI.heap.size≤b:=fun b hb=>(cf HV.I.2.2.2.1 hb).1
    refine ⟨rfl,x,acg y x.Ma a' c',HV.I.2.1.same (hnt _ HF.I.ne) (fun b hb=>hnt b (HF.I.hx b hb).2.2),PBx.store HV.I.2.2.1 (cq HV.I.2.2.2.1 (by omega)) (fun hm=>by have:=hlow _ hm; omega),HZ.I.symm,?_,fun g hg=>hg,fun g hg=> .inr (by have:=hlow g hg; omega)⟩;have h5:aI w V1 (o.s :: o.t :: (blk x.ak ++ blk y.ak)):=aI.dI (HB.I.2.2.trans (HV.I.2.2.2.2.mono hvs));exact h5.trans (aI.set (vs:= [_]) (by simp))
   clear hnt hvs hlt hlo;go_wp2
   go_end0
   exact HE.I
 ·rw [ab6] at u2
  obtain ⟨-,pm2,-,-,pm5⟩:=abT HF.I.px;obtain ⟨tm1,tm2,-,-,tm5⟩:=abT HF.I.abw;obtain ⟨N,hN⟩: ∃ N,min x.Ma.length (ab4 y.todS)=N:=⟨_,rfl⟩
  have hN1:N≤x.Ma.length:=by omega
  have hmin:min (y.max - y.Ma.length) (x.Ma.length:Int)=(N:Int):=by rw [← hN]; unfold ab4; omega
  have HZ:Hid (abO x.todS y.todS=(abZ (x.Ma.drop N) x.todS,abZ (y.Ma ++ x.Ma.take N) y.todS)):=by show _=_; unfold abO; simp only [ab6,hN,if_true]
  have q1:x.Ma.length≤5:=by omega
  have q2:y.Ma.length≤5:=by omega
  have q3:(0:Int)≤y.max - y.Ma.length:=by omega
  have q4:y.max - y.Ma.length≤5:=by omega
  clear hN ab6;go_upto_region 4 with fail;clear l4 l5 u0 u1 u2 u3 u4 v0 v1 v2 v3 v4;have HS:Hid (W0.drew.heap[w.heap.size]? =some (.cells (fz o) 205 (0,0))∧W0.drew.heap[o.t]? =some (.cells (cW y) 85 (0,0))):=⟨HB.I.1,HB.I.2.2.1.box⟩
  refine Kr (S:=fun W=>W.heap[w.heap.size]? =some (.cells (fz o) 205 (0,0))∧W.heap[o.t]? =some (.cells (cW y) 85 (0,0))) (by kernel_rfl) HS.I (fun _=> ?_);have pI:Below W0.heap.size W0 W0.drew:=(Kp _ _).drew;replace HB:Hid (W0.drew.heap[w.heap.size]? =some (.cells (fz o) 205 (0,0))∧PBx W0.drew abn o.s x∧PBx W0.drew abC o.t y∧Below w.heap.size w W0.drew):=⟨HB.I.1,HB.I.2.1.below pI,HB.I.2.2.1.below pI,HB.I.2.2.2.trans (pI.mono HB.I.2.2.2.size)⟩
  clear pI;generalize W0.drew=YI at *;refine tt 0 HS.I ?_;refine tt 1 HS.I ?_ (hy:=fun w0 hS0=>by obtain ⟨l4,l5⟩:=abN hS0.1; go_simp; try with_reducible rfl);refine tt 2 HS.I ?_;refine tt 3 HS.I ?_;refine tt 4 HS.I ?_ (hy:=fun w0 hS0=>by obtain ⟨v0,v1,v2,v3,v4⟩:=gE hS0.2; go_simp; try with_reducible rfl);refine tt 5 HS.I ?_;refine tt 6 HS.I ?_ (hy:=fun w0 hS0=>by obtain ⟨l4,l5⟩:=abN hS0.1; go_simp; try with_reducible rfl);refine tt 7 HS.I ?_;refine tt 8 HS.I ?_;refine tt 9 HS.I ?_ (hy:=fun w0 hS0=>by obtain ⟨v0,v1,v2,v3,v4⟩:=gE hS0.2; go_simp; try with_reducible rfl);refine tt 10 HS.I ?_;refine tt 11 HS.I ?_;refine tt 12 HS.I ?_;refine K3 (by kernel_rfl) ?_ _;clear HS;obtain ⟨l4,l5⟩:=abN HB.I.1;obtain ⟨u0,u1,u2,u3,u4⟩:=gE HB.I.2.1.box;go_upto_region 6 with fail;rw [hmin];clear l4 l5 u0 u1 u2 u3 u4 hmin;have hvs:=HB.I.2.2.2.size;have hlt:=HF.I.lt;have HSZ:Hid (w.heap.size≤YI.heap.size∧o.s < w.heap.size∧o.t < w.heap.size):=⟨hvs,hlt⟩
  have hcap:x.Ma.length≤x.aq:=by
   rcases HB.I.2.1.mine.2 with ⟨-,h6⟩ | ⟨g,cap,cur,h6,-,-,h7,-⟩
   ·rw [h6]; exact Ky _
   ·simp only [LD] at h6; rw [h6.2.2]; exact h7
  have n1:(N:Int)≤(x.aq:Int):=by omega
  have n2:N≤x.aq:=by omega
  have n3:(0:Int)≤(N:Int):=by omega
  have n4:(N:Int)≤(x.Ma.length:Int):=by omega
  clear hcap hvs hlt;have HS:Hid (YI.drew.heap[w.heap.size]? =some (.cells (fz o) 205 (0,0))∧YI.drew.heap[o.s]? =some (.cells (cW x) 85 (0,0))):=⟨HB.I.1,HB.I.2.1.box⟩
  refine Kr (S:=fun W=>W.heap[w.heap.size]? =some (.cells (fz o) 205 (0,0))∧W.heap[o.s]? =some (.cells (cW x) 85 (0,0))) (by kernel_rfl) HS.I (fun _=> ?_);have pI:Below YI.heap.size YI YI.drew:=(Kp _ _).drew;replace HB:Hid (YI.drew.heap[w.heap.size]? =some (.cells (fz o) 205 (0,0))∧PBx YI.drew abn o.s x∧PBx YI.drew abC o.t y∧Below w.heap.size w YI.drew):=⟨HB.I.1,HB.I.2.1.below pI,HB.I.2.2.1.below pI,HB.I.2.2.2.trans (pI.mono HB.I.2.2.2.size)⟩
  replace HSZ:Hid (w.heap.size≤YI.drew.heap.size∧o.s < w.heap.size∧o.t < w.heap.size):=HSZ.I;clear pI;generalize YI.drew=V1 at *;refine tt 0 HS.I ?_;refine tt 1 HS.I ?_ (hy:=fun w0 hS0=>by obtain ⟨l4,l5⟩:=abN hS0.1; go_simp; try with_reducible rfl);refine tt 2 HS.I ?_;refine tt 3 HS.I ?_ (hy:=fun w0 hS0=>by obtain ⟨l4,l5⟩:=abN hS0.1; go_simp; try with_reducible rfl);refine tt 4 HS.I ?_;refine tt 5 HS.I ?_;refine tt 7 HS.I ?_;refine tt 8 HS.I ?_ (hy:=fun w0 hS0=>by obtain ⟨l4,l5⟩:=abN hS0.1; go_simp; try with_reducible rfl);refine tt 9 HS.I ?_;refine tt 10 HS.I ?_;refine tt 11 HS.I ?_ (hy:=fun w0 hS0=>by obtain ⟨u0,u1,u2,u3,u4⟩:=gE hS0.2; go_simp; try with_reducible rfl);refine tt 12 HS.I ?_;refine tt 13 HS.I ?_
  try simp only [pt,sb,s0,s1]
  refine L7 6 (fun Q hQ=> ?_);obtain ⟨-,-,-,-,v4⟩:=gE HB.I.2.2.1.box;go_wp2_with fail;clear v4;refine hQ.out _ _ HS.I (fun _=> ?_);clear hQ Q
  try simp only [pt,sb,s0,s1]
  have hlt:(x.Ma.take N).length=N:=by rw [List.length_take]; omega
  obtain ⟨a3,c3,w3,hr3,Bn,hg3,IJ⟩:=ou V1 abC y.ak y.aq y.Ma HB.I.2.2.1.mine x.ak (x.Ma.take N) x.aq (uM N (nP HB.I.2.1.mine)) (by rw [hlt]; omega) (by have:=HSZ.I.1; have:=HF.I.lo; omega);rw [hlt] at hr3;rw [← Lf] at Bn;have hlen:(y.Ma ++ x.Ma.take N).length=y.Ma.length+N:=by rw [Lf,hlt]
  have hkg:aI V1 w3 (blk y.ak):=aI.grown (Kp _ _) hg3;have HV:Hid ((w3.heap[w.heap.size]? =some (.cells (fz o) 205 (0,0))∧w3.heap[o.s]? =some (.cells (cW x) 85 (0,0)))∧PBx w3 abn o.s x∧w3.heap[o.t]? =some (.cells (cW y) 85 (0,0))∧w3.ownsRow abC 9 1 (.slice a3 (y.Ma ++ x.Ma.take N).length c3) (y.Ma ++ x.Ma.take N).length (bT.flat (y.Ma ++ x.Ma.take N))∧aI V1 w3 (blk y.ak)∧ ∀ g∈blk a3,g∈blk y.ak∨g=V1.heap.size):=by
   have hz:=HSZ.I;have hyl: ∀ g∈blk y.ak,g < w.heap.size:=fun g hg=>(cf HI.I.2.mine hg).2
   have e1:w3.heap[o.s]? =V1.heap[o.s]? :=hkg.same _ (by omega) fun hm=>(HF.I.hy _ hm).1 rfl
   have e2:w3.heap[o.t]? =V1.heap[o.t]? :=hkg.same _ (by omega) fun hm=>(HF.I.hy _ hm).2 rfl
   refine ⟨⟨(hkg.same _ (J2.1 HS.I.1).1 fun hm=>by have:=hyl _ hm; omega).trans HS.I.1,e1.trans HS.I.2⟩,HB.I.2.1.same e1 (fun b hb=>hkg.same b (cf HB.I.2.1.mine hb).2 (HF.I.hx b hb).1),e2.trans HB.I.2.2.1.box,Bn,hkg,IJ⟩
  have HR:=aA hr3;clear hr3 Bn hg3 IJ hkg;refine L7 14 (fun Q hQ=> ?_);refine cM _ _ 83 rfl _ _ _ w3 rfl rfl HR.I ?_;refine hQ.out _ _ HV.I.1 (fun _=> ?_);clear hQ Q HR
  try simp only [pt,sb,s0,s1]
  refine tt 15 HV.I.1 ?_;refine tt 16 HV.I.1 ?_;refine L7 17 (fun Q hQ=> ?_);obtain ⟨-,-,-,-,v4⟩:=gE HV.I.2.2.1;have f4:w3.frozen? ⟨o.t,4,none⟩=false:=by have h5:=HV.I.2.2.1; simp [World.frozen?,h5,cW]
  go_wp2_with fail;clear v4 f4;have HW:Hid (((w3.setCell ⟨o.t,4,none⟩ (.slice a3 (y.Ma.length+N) c3)).heap[w.heap.size]? =some (.cells (fz o) 205 (0,0))∧(w3.setCell ⟨o.t,4,none⟩ (.slice a3 (y.Ma.length+N) c3)).heap[o.s]? =some (.cells (cW x) 85 (0,0)))∧PBx (w3.setCell ⟨o.t,4,none⟩ (.slice a3 (y.Ma.length+N) c3)) abn o.s x∧PBx (w3.setCell ⟨o.t,4,none⟩ (.slice a3 (y.Ma.length+N) c3)) abC o.t (acg y (y.Ma ++ x.Ma.take N) a3 c3)∧aI w (w3.setCell ⟨o.t,4,none⟩ (.slice a3 (y.Ma.length+N) c3)) (o.t :: blk y.ak)∧w.heap.size < (w3.setCell ⟨o.t,4,none⟩ (.slice a3 (y.Ma.length+N) c3)).heap.size∧ ∀ g∈blk a3,g∈blk y.ak∨w.heap.size < g):=by
   rw [← hlen];have hz:=HSZ.I;have hv1:w.heap.size < V1.heap.size:=(J2.1 HS.I.1).1;have hnt: ∀ b,b≠o.t→(w3.setCell ⟨o.t,4,none⟩ (.slice a3 (y.Ma ++ x.Ma.take N).length c3)).heap[b]? =w3.heap[b]? :=fun b hb=>aH hb
   refine ⟨⟨(hnt _ (by omega)).trans HV.I.1.1,(hnt _ HF.I.ne).trans HV.I.1.2⟩,HV.I.2.1.same (hnt _ HF.I.ne) (fun b hb=>hnt b (HF.I.hx b hb).2.2),PBx.store HV.I.2.2.1 HV.I.2.2.2.1 (fun hm=> ?_),?_,?_,fun g hg=> ?_⟩
   ·rcases HV.I.2.2.2.2.2 _ hm with h5 | h5
    ·exact (HF.I.hy _ h5).2 rfl
    ·omega
   ·have h5:aI w w3 (o.t :: blk y.ak):=(aI.dI HB.I.2.2.2).trans (HV.I.2.2.2.2.1.mono fun g hg=>List.mem_cons_of_mem _ hg)
    exact h5.trans (aI.set (vs:= [_]) (by simp))
   ·have:=HV.I.2.2.2.2.1.size
    simp [World.setCell]; omega
   ·rcases HV.I.2.2.2.2.2 g hg with h5 | h5
    ·exact .inl h5
    ·exact .inr (by omega)
  generalize w3.setCell ⟨o.t,4,none⟩ (.slice a3 (y.Ma.length+N) c3)=V2 at *;refine hQ.out _ _ HW.I.1 (fun _=> ?_);clear hQ Q HV HS HB HSZ;refine K3 (by kernel_rfl) ?_ _;go_upto_region 7 with fail;refine Kr (S:=fun W=>W.heap[w.heap.size]? =some (.cells (fz o) 205 (0,0))) (by kernel_rfl) HW.I.1.1 (fun _=> ?_);have pI:Below V2.heap.size V2 V2.drew:=(Kp _ _).drew;have HX:Hid (V2.drew.heap[w.heap.size]? =some (.cells (fz o) 205 (0,0))∧PBx V2.drew abn o.s x∧PBx V2.drew abC o.t (acg y (y.Ma ++ x.Ma.take N) a3 c3)∧aI w V2.drew (o.t :: blk y.ak)∧w.heap.size < V2.drew.heap.size∧ ∀ g∈blk a3,g∈blk y.ak∨w.heap.size < g):=⟨HW.I.1.1,HW.I.2.1.below pI,HW.I.2.2.1.below pI,HW.I.2.2.2.1.trans (aI.dI pI),HW.I.2.2.2.2.1,HW.I.2.2.2.2.2⟩
  clear pI HW;generalize V2.drew=V3 at *;refine tt 0 HX.I.1 ?_;refine tt 1 HX.I.1 ?_ (hy:=fun w0 hS0=>by obtain ⟨l4,l5⟩:=abN hS0; go_simp; try with_reducible rfl);refine tt 2 HX.I.1 ?_;refine tt 3 HX.I.1 ?_ (hy:=fun w0 hS0=>by obtain ⟨l4,l5⟩:=abN hS0; go_simp; try with_reducible rfl);refine tt 4 HX.I.1 ?_;refine tt 5 HX.I.1 ?_;refine tt 7 HX.I.1 ?_
  try simp only [pt,sb,s0,s1]
  refine L7 6 (fun Q hQ=> ?_);obtain ⟨-,-,-,-,u4⟩:=gE HX.I.2.1.box;go_wp2_with fail;clear u4;refine hQ.out _ _ HX.I.1 (fun _=> ?_);clear hQ Q
  try simp only [pt,sb,s0,s1]
  refine L7 8 (fun Q hQ=> ?_);go_wp2_with fail;refine (adJ x.ak x.aq N abn x.Ma V3 hN1 (by omega) HX.I.2.1.mine).mono ?_;rintro e V4 ⟨rfl,ho4,hk4⟩;have hlt:=HF.I.lt;have hxl: ∀ g∈blk x.ak,g < w.heap.size:=fun g hg=>(cf HI.I.1.mine hg).2
  have hv3:=HX.I.2.2.2.2.1;have e0:V4.heap[w.heap.size]? =V3.heap[w.heap.size]? :=hk4.same _ (by omega) fun hm=>by have:=hxl _ hm; omega
  have e1:V4.heap[o.s]? =V3.heap[o.s]? :=hk4.same _ (by omega) fun hm=>(HF.I.hx _ hm).2.1 rfl
  have e2:V4.heap[o.t]? =V3.heap[o.t]? :=hk4.same _ (by omega) fun hm=>(HF.I.hx _ hm).2.2 rfl
  have hld:(x.Ma.drop N).length=x.Ma.length - N:=List.length_drop;have HY:Hid (V4.heap[w.heap.size]? =some (.cells (fz o) 205 (0,0))∧V4.heap[o.s]? =some (.cells (cW x) 85 (0,0))∧PBx V4 abC o.t (acg y (y.Ma ++ x.Ma.take N) a3 c3)∧V4.ownsRow abn 9 1 (.slice x.ak (x.Ma.drop N).length x.aq) (x.Ma.drop N).length (bT.flat (x.Ma.drop N))∧aI w V4 (o.s :: o.t :: (blk x.ak ++ blk y.ak))):=by
   refine ⟨e0.trans HX.I.1,e1.trans HX.I.2.1.box,HX.I.2.2.1.same e2 (fun b hb=> ?_),by rw [hld]; exact ho4,?_⟩
   ·refine hk4.same b (cf HX.I.2.2.1.mine hb).2 fun hm=> ?_
    rcases HX.I.2.2.2.2.2 b hb with h5 | h5
    ·exact (HF.I.hx b hm).1 h5
    ·have:=hxl b hm; omega
   ·have h5:aI w V3 (o.s :: o.t :: (blk x.ak ++ blk y.ak)):=HX.I.2.2.2.1.mono fun g hg=>by
     rcases Kt.1 hg with rfl | hg
     ·simp
     ·simp [hg]
    exact h5.trans (hk4.mono fun g hg=>by simp [hg])
  clear e0 e1 e2 ho4 hk4;refine hQ.out _ _ HY.I.1 (fun _=> ?_);clear hQ Q
  try simp only [pt,sb,s0,s1]
  refine tt 9 HY.I.1 ?_;refine tt 10 HY.I.1 ?_;refine L7 11 (fun Q hQ=> ?_);obtain ⟨-,-,-,-,u4⟩:=gE HY.I.2.1;have f4:V4.frozen? ⟨o.s,4,none⟩=false:=by have h5:=HY.I.2.1; simp [World.frozen?,h5,cW]
  go_wp2_with fail;clear u4 f4;have hnt: ∀ b,b≠o.s→(V4.setCell ⟨o.s,4,none⟩ (.slice x.ak (x.Ma.length - N) x.aq)).heap[b]? =V4.heap[b]? :=fun b hb=>aH hb
  refine hQ.out _ _ ((hnt _ (by omega)).trans HY.I.1) (fun _=> ?_);clear hQ Q;refine K3 (by kernel_rfl) ?_ _;have HE:Hid (ab8 w o x y abn abC (.returned (.tuple #[])) (V4.setCell ⟨o.s,4,none⟩ (.slice x.ak (x.Ma.length - N) x.aq))):=by
   refine ⟨rfl,acg x (x.Ma.drop N) x.ak x.aq,acg y (y.Ma ++ x.Ma.take N) a3 c3,?_,HY.I.2.2.1.same (hnt _ (fun e=>HF.I.ne e.symm)) (fun b hb=>hnt b fun e=> ?_),HZ.I.symm,HY.I.2.2.2.2.trans (aI.set (vs:= [_]) (by simp)),fun g hg=>hg,fun g hg=> ?_⟩
   ·rw [← hld]
    exact PBx.store HY.I.2.1 HY.I.2.2.2.1 fun hm=>(HF.I.hx _ hm).2.1 rfl
   ·rcases HX.I.2.2.2.2.2 b hb with h5 | h5
    ·exact (HF.I.hy b h5).1 e
    ·omega
   ·rcases HX.I.2.2.2.2.2 g hg with h5 | h5
    ·exact .inl h5
    ·exact .inr (by omega)
  clear hnt hlt hxl hv3 hld;go_wp2
  go_end0
  exact HE.I
end
section
open Go.RowKit
attribute [local go_sem ↓] Kc Kd
structure ZU (w:World) (k:eA) (p:af) (W:World):Prop where
 src:W.heap[w.heap.size]? =some (.cells k.row 28 (0,0))
 aaj:W.heap[w.heap.size+1]? =some (.cells p.cells 68 (0,0))
 cd:Below w.heap.size w W
structure Y9 (W:World) (b:Nat) (k:eA) (u:kd) (g:Nat):Prop where
 own:gp W b k
 pure:k.pure=u
 win:k.vb=some ⟨g,0,none⟩
 lt:g < W.heap.size
section
variable {p:af} {k:eA} {u:kd} {w W U V:World} {B X b g:Nat} {bs:List Nat}
theorem ZU.below (h:ZU w k p U) (hb:Below U.heap.size U V):ZU w k p V:=⟨(hb.block _ (J2.1 h.src).1).trans h.src,(hb.block _ (J2.1 h.aaj).1).trans h.aaj,h.cd.trans (hb.mono h.cd.size)⟩
theorem ZU.lt (h:ZU w k p U):w.heap.size+1 < U.heap.size:=(J2.1 h.aaj).1
theorem ZU.kept (h:ZU w k p U) (hk:aI U V bs) (hs: ∀ g∈bs,w.heap.size+1 < g):ZU w k p V:=⟨(hk.same _ (J2.1 h.src).1 fun hm=>by have:=hs _ hm; omega).trans h.src,(hk.same _ (J2.1 h.aaj).1 fun hm=>by have:=hs _ hm; omega).trans h.aaj,h.cd.trans (hk.below h.cd.size fun g hg=>by have:=hs g hg; omega)⟩
theorem ZU.cells (h:ZU w k p W):W.cell? ⟨w.heap.size,0,none⟩=some (.int .i64 k.now)∧W.cell? ⟨w.heap.size,1,none⟩=some (.int .i64 k.major)∧W.cell? ⟨w.heap.size,2,none⟩=some (.slice k.vb k.fn.length k.Te)∧W.cell? ⟨w.heap.size,3,none⟩=some (.slice k.qn k.parts.length k.sa)∧W.cell? ⟨w.heap.size,4,none⟩=some (.slice k.qi k.eC.length k.tC):=by
 have h:=h.src;simp [World.cell?,h]
theorem Y9.below (h:Y9 U b k u g) (hb:Below U.heap.size U V):Y9 V b k u g:=⟨h.own.below hb,h.pure,h.win,by have:=hb.size; have:=h.lt; omega⟩
theorem abr (h:Hid (Tk U X k)) (hb:Below U.heap.size U V):Hid (Tk V X k):=(hb.block _ (J2.1 h.I).1).trans h.I
theorem abt (h:Hid (gp U b k)) (hb:Below U.heap.size U V):Hid (gp V b k):=h.I.below hb
theorem Wj.kept (h:Wj U X b k) (hk:aI U V bs) (hs:X∉bs) (ho: ∀ g∈k.Mc,g∉bs):Wj V X b k:=⟨(hk.same _ (J2.1 h.1).1 hs).trans h.1,h.2.same fun g hg=>hk.same g (h.2.lt hg).2 (ho g hg)⟩
end
theorem Zw (k k':eA) (w:World) (hs:k.pure.Small) (hp:k'.pure=k.pure) (h:eA.At w k) (h':eA.At w k'):
  Calls J3 12 #[.agg k.row,.agg k'.row] w fun e w'=>e= .returned (.bool true)∧Below w.heap.size w w':=
 Uj k k' w hs.Ts (by have:=hs.sC; simpa [eA.pure] using this) hs.w8 (fun _ hx=>pC hs hx) hp h h'
theorem aam:ZG.Small:=⟨Ky _,Ky _,Ky _,(fun j=>by simp [ZG,sz]),(fun x hx=>by cases hx),(fun x hx=>by cases hx)⟩
end
end Go.Proofs.YteidkehoekbcaaaGreat
