/- What the proof leans on, part 0. -/
import Derived.Test.YtnlbiglljiopmaaGreatDoorOwnT13
set_option linter.unusedVariables false
set_option maxRecDepth 100000
set_option maxHeartbeats 8000000
open Go.Proofs.Tryz
open Go renaming World->w_,Calls->k_,Addr->d_,below_setRow->q_
open Go.Ending renaming returned->r_
open Go.IntKind renaming i64->j_
open Go.Obj renaming cells->c_
open Go.RowKit renaming Below->B_
open Go.Value renaming int->i_,slice->s_,bool->b_,agg->a_
open Option renaming some->o_,none->n_
open Array renaming getElem?_eq_some_iff->J2
open Bool renaming and_eq_true->J7
open Go renaming heap_alloc_new->Kj,setRow_heap->KU,setRow_other->KH,wpAnyH_done->K3,wpAnyH_ready->KW,wp_at_succ->Kd,wp_at_zero->Kc,wp_region_held_drew->Kr
open Go.AllReadyH renaming cons->KX,nil->KY
open Go.Proofs.Tryz renaming prog->J3
open Go.RowKit.Below renaming refl->Kp
open Nat renaming le_refl->Ki
open Option.some renaming inj->KC

namespace Go.Proofs.YtnlbiglljiopmaaGreatDoor
open Go.RowKit
attribute [local go_sem ↓] Kc Kd
theorem aiU {p q:aE} {now:Int} {n:Nat} (hp:aQ p) (h:agL now p n=o_ q):aQ q:=by
 cases n with
 | zero=>
  rw [← KC h];exact hp
 | succ n=>
  obtain ⟨r,-,h2⟩:=Option.bind_eq_some_iff.1 (show (agL now p n).bind _=o_ q from h);exact agt h2
theorem agT {p q:aE} {now n:Int} (h:agc p now n=o_ q):aQ q:=by
 unfold agc at h
 split at h
 ·rename_i h5
  rw [J7] at h5;exact aiU ((ch _).1 h5.1) h
 ·cases h
theorem agI.more {p q r:aE} {now:Int} {i:Nat} (h:agI now p i q) (hr:hZ q (now+i)=o_ r):agI now p (i+1) r:=by
 refine ⟨?_,agt hr,?_⟩
 ·show (agL now p i).bind _=_
  rw [h.is];exact hr
 ·unfold hZ at hr
  split at hr
  ·rename_i h5
   simp only [J7] at h5
   have:=bz.1 h5.1.2
   exact .inr (by omega)
  ·cases hr
theorem agI.fail {p q:aE} {now:Int} {i:Nat} (h:agI now p i q) (hr:hZ q (now+i)=n_):agL now p (i+1)=n_:=by
 show (agL now p i).bind _=_
 rw [h.is];exact hr
structure SyI (w:w_) (X:Nat) (p:aE) (now n:Int) (k:Nat) (b:Bool) (q:af) (wr:w_):Prop where
 cd:B_ w.heap.size w wr
 box:wr.heap[w.heap.size+1]? =o_ (c_ ar 38)
 I:wr.heap[X]? =o_ (c_ q.cells 38)
 hx:w.heap.size+1 < X
 yes:b=true→(q.Fit∧(∀ x∈q.L8,x.dX)∧af.At wr q)∧agI now p k q.pure
 no:b=false→agc p now n=n_
 pr:b=true→bK p=true
theorem ait {q:af} (h:aQ q.pure):q.Fit∧ ∀ x∈q.L8,x.dX:=⟨dV (ta h),fun _ hx=>(cY (ta h) hx).1⟩
theorem ahR (p:af) (now n:Int) (w:w_) (hf:p.Fit) (hs: ∀ x∈p.L8,x.dX) (h:af.At w p) (hw: -9223372036854775808≤now∧now≤9223372036854775807):
  k_ J3 12 #[a_ p.cells,i_ j_ now,i_ j_ n] w fun e w'=>gI w (agc p.pure now n) e w':=by
 have b1:=dT w (c_ p.cells 38) (c_ ar 38);have h2:=cZ w (c_ p.cells 38) (c_ ar 38);have S:Hid (av ((w.alloc (c_ p.cells 38)).alloc (c_ ar 38)) w.heap.size p∧af.At ((w.alloc (c_ p.cells 38)).alloc (c_ ar 38)) p∧B_ w.heap.size w ((w.alloc (c_ p.cells 38)).alloc (c_ ar 38))∧((w.alloc (c_ p.cells 38)).alloc (c_ ar 38)).heap[w.heap.size+1]? =o_ (c_ ar 38)):=⟨h2.1,h.below b1,b1,h2.2⟩
 have fl:Hid (p.Fit∧ ∀ x∈p.L8,x.dX):=⟨hf,hs⟩
 clear h hf hs b1 h2
 go_enter func12,ntmps12
 go_upto_region 1 with fail;generalize (w.alloc (c_ p.cells 38)).alloc (c_ ar 38)=A at *;have Mb:=dx n 0 200 A;go_wp2_with fail;refine Mb.mono ?_;clear Mb;rintro e A2 ⟨rfl,rfl⟩;cases h5:cv n 0 200
 ·have HN:Hid (agc p.pure now n=n_):=by show agc _ _ _=n_; unfold agc; rw [h5,Bool.and_false]; rfl
  clear h5;go_wp2_with (refine ec 6 14 ar S.I.2.2.2 ?_);refine mG results12 (b_ false) S.I.2.2.2 ?_;exact ca HN.I (q_ S.I.2.2.1 (by omega) _)
 obtain ⟨m,rfl⟩: ∃ m:Nat,n=(m:Int):=⟨n.toNat,by have:=bz.1 h5; omega⟩
 have HN:Hid (agc p.pure now m=if bK p.pure then agL now p.pure m else n_):=by show agc _ _ _=_; unfold agc; rw [h5,Bool.and_true]; rfl
 have hm:m≤200:=by have:=bz.1 h5; omega
 clear h5;have hS:av A2.drew w.heap.size p:=S.I.1;replace S:Hid (af.At A2.drew p∧B_ w.heap.size w A2.drew∧A2.drew.heap[w.heap.size+1]? =o_ (c_ ar 38)):=⟨S.I.2.1,S.I.2.2.1.drew,S.I.2.2.2⟩
 go_wp2_with fail;refine Kr (S:=fun W=>av W w.heap.size p) ZcR hS (fun _=> ?_)
 revert S hS
 generalize A2.drew=V;intro hS S;refine tkr 0 (v:=a_ p.cells) rfl (Ib (by rfl) 38 _ rfl w.heap.size (by rfl) 38 _ _ (fun _ h=>h) underlying38 rfl ZcR) hS ?_; simp only [pt,sb,s0,s1];refine tkr 1 (v:=a_ p.cells) rfl (Ib (by rfl) 38 _ rfl w.heap.size (by rfl) 38 _ _ (fun _ h=>h) underlying38 rfl ZcR) hS ?_; simp only [pt,sb,s0,s1];refine KW (rs:= [2,3]) ZcR (by simp) ?_;refine KX rfl (fun K hK=> ?_) (KX rfl (fun K hK=> ?_) KY)
 case' refine_1=>
  simp only [Y5,gz,gs]; rw [if_pos (by rfl)];go_wp2_with fail;refine (eV p V fl.I.1 fl.I.2 S.I.1).mono ?_;rintro e V1 ⟨rfl,hb⟩;have cm:=hS.below hb;have hz:B_ V1.heap.size V1 (V1.alloc (c_ ar 38)):=(Kp _ _).alloc (Ki _) _;have hz2:B_ V1.heap.size V1 ((V1.alloc (c_ ar 38)).setRow V1.heap.size p.cells):=q_ hz (Ki _) _;have HI:Hid (SyI w V1.heap.size p.pure now m 0 (bK p.pure) p ((V1.alloc (c_ ar 38)).setRow V1.heap.size p.cells)):=by
   have hb2:=hb.trans (hz2.mono hb.size);have hl:=(J2.1 S.I.2.2).1;exact ⟨S.I.2.1.trans (hb2.mono S.I.2.1.size),(hb2.block _ hl).trans S.I.2.2,KU _ _ _ _ _ _ (Kj _ _),by have:=hb.size; omega,fun e=>⟨⟨fl.I.1,fl.I.2,S.I.1.below hb2⟩,agI.start ((ch _).1 e)⟩,(fun e=>by rw [HN.I,e]; rfl),fun e=>e⟩
  have hS2:=cm.below hz;have NO:=cm.below hz2;clear hb hz hz2;go_wp2_with fail;refine hK.out _ _ cm (fun _=> ?_); clear hK K; try simp only [pt,sb,s0,s1]
  refine L7 3 (fun K hK=> ?_);go_wp2_with fail;refine hK.out _ _ hS2 (fun _=> ?_); clear hK K; try simp only [pt,sb,s0,s1]
  refine L7 4 (fun K hK=> ?_);refine qd 38 (.tmp 8) (.tmp 15) rfl V1.heap.size _ ar p.cells rfl rfl (Kj _ _) ZcR rfl ZcR ?_;refine hK.out _ _ NO (fun _=> ?_); clear hK K;refine tk 5 (v:= ?_) ?_ NO ?_; rotate_left; (intro w0 hS0; go_simp; try with_reducible rfl); simp only [pt];refine K3 ZcR ?_ _;clear cm hS2 NO hS S fl
  revert HI
  generalize (V1.alloc (c_ ar 38)).setRow V1.heap.size p.cells=U;generalize V1.heap.size=X;intro HI
 case' refine_2=>
  simp only [Y5,gz,gs]; rw [if_pos (by rfl)];have hz:B_ V.heap.size V (V.alloc (c_ ar 38)):=(Kp _ _).alloc (Ki _) _;have cm:=hS.below hz;have hzo:(V.alloc (c_ ar 38)).heap[V.heap.size]? =o_ (c_ ar 38):=Kj _ _;have HZ:=aA hz;clear hz;go_wp2_with fail;refine hK.out _ _ cm (fun _=> ?_); clear hK K; try simp only [pt,sb,s0,s1]
  refine L7 2 (fun K hK=> ?_);go_wp2_with fail;refine (eV p _ fl.I.1 fl.I.2 (S.I.1.below HZ.I)).mono ?_;rintro e V1 ⟨rfl,hb⟩;have hZ1:V1.heap[V.heap.size]? =o_ (c_ ar 38):=(hb.block _ (J2.1 hzo).1).trans hzo;have hb1:B_ V.heap.size V V1:=HZ.I.trans (hb.mono HZ.I.size);have hz2:B_ V.heap.size V (V1.setRow V.heap.size p.cells):=q_ hb1 (Ki _) _;have HI:Hid (SyI w V.heap.size p.pure now m 0 (bK p.pure) p (V1.setRow V.heap.size p.cells)):=by
   have hl:=(J2.1 S.I.2.2).1;exact ⟨S.I.2.1.trans (hz2.mono S.I.2.1.size),(hz2.block _ hl).trans S.I.2.2,KU _ _ _ _ _ _ hZ1,hl,fun e=>⟨⟨fl.I.1,fl.I.2,S.I.1.below hz2⟩,agI.start ((ch _).1 e)⟩,(fun e=>by rw [HN.I,e]; rfl),fun e=>e⟩
  have hS2:=hS.below hb1;have NO:=hS.below hz2;clear hb hb1 hz2 hzo;go_wp2_with fail;refine hK.out _ _ hS2 (fun _=> ?_); clear hK K; try simp only [pt,sb,s0,s1]
  refine L7 4 (fun K hK=> ?_);refine qd 38 (.tmp 8) (.tmp 15) rfl V.heap.size _ ar p.cells rfl rfl hZ1 ZcR rfl ZcR ?_;refine hK.out _ _ NO (fun _=> ?_); clear hK K;refine tk 5 (v:= ?_) ?_ NO ?_; rotate_left; (intro w0 hS0; go_simp; try with_reducible rfl); simp only [pt];refine K3 ZcR ?_ _;clear cm hS2 NO hS S fl hZ1
  revert HI
  generalize V1.setRow V.heap.size p.cells=U;generalize V.heap.size=X;intro HI
 all_goals
  go_wp2_with fail
  go_loopw [9,10] (fun okv i wr=> ∃ (k:Nat) (b:Bool),k≤m∧okv=b_ b∧i=i_ j_ k∧Hid (∃ q,SyI w X p.pure now m k b q wr)) (fun _ i _=>m - (Go.RowKit.intOf i).toNat)
  case atStart=>exact ⟨0,_,Nat.zero_le _,rfl,rfl,p,HI.I⟩
  case round=>
   clear HI;obtain ⟨k,b,hk,rfl,rfl,HI⟩:=hrel;obtain ⟨q,h5⟩:=HI.I;replace HI:=aA h5;clear h5;by_cases hlt:k < m
   ·have i1:(k:Int) < (m:Int):=by omega
    cases b with
    | false=>
     exact Zbi
    | true=>
     have hts:=(HI.I.yes rfl).2;have r0: -9223372036854775808≤now+(k:Int):=by rcases hts.akr with h5 | h5 <;> omega
     have r1:now+(k:Int)≤9223372036854775807:=by rcases hts.akr with h5 | h5 <;> omega
     clear hts;go_wp2_with (refine eT 8 HI.I.I ?_);refine (vu q (now+k) wr (HI.I.yes rfl).1.1 (HI.I.yes rfl).1.2.1 (HI.I.yes rfl).1.2.2).mono ?_;rintro e w2 ⟨r,rfl,ho,hp,hb⟩;have hx2:w2.heap[X]? =o_ (c_ q.cells 38):=(hb.block _ (J2.1 HI.I.I).1).trans HI.I.I;have HF:Hid (SyI w X p.pure now m (k+1) (hZ q.pure (now+k)).isSome r (w2.setRow X r.cells)):=by
      have hl:=(J2.1 HI.I.I).1;have hxx:=HI.I.hx;refine ⟨q_ (HI.I.cd.trans (hb.mono HI.I.cd.size)) (by omega) _,((KH _ _ _ _ (by omega)).trans (hb.block _ (J2.1 HI.I.box).1)).trans HI.I.box,KU _ _ _ _ _ _ hx2,hxx,fun e=> ?_,fun e=> ?_,fun _=>HI.I.pr rfl⟩
      ·obtain ⟨z,hz⟩:=Option.isSome_iff_exists.1 e
       rw [hz] at hp;have hr:aQ r.pure:=by rw [hp]; exact agt hz
       exact ⟨⟨(ait hr).1,(ait hr).2,(ho.same fun g hg=>KH _ _ _ _ (by have:=(ho.lt g hg).1; omega)).at⟩,by rw [hp]; exact (HI.I.yes rfl).2.more hz⟩
      ·rw [HN.I,ah6 ((HI.I.yes rfl).2.fail (Option.isNone_iff_eq_none.1 (by simpa using e))) hlt]
       split <;> rfl
     clear ho hp hb;go_wp2_with (refine ec 8 32 r.cells hx2 ?_);go_roundw
     case rel=>exact ⟨k+1,_,by omega,rfl,by go_num,r,HF.I⟩
     case measure=>simp [Go.RowKit.intOf]; omega
   ·obtain rfl:k=m:=by omega
    clear hlt hk;cases b with
    | false=>
     exact Zbi
    | true=>
     go_wp2_with (refine eT 8 HI.I.I ?_);refine (fR q wr (HI.I.yes rfl).1.1 (HI.I.yes rfl).1.2.1 (HI.I.yes rfl).1.2.2).mono ?_;rintro e w3 ⟨r,rfl,ho,hp,hb⟩;have H3:Hid (ap w3 wr.heap.size r∧B_ w.heap.size w w3∧w3.heap[w.heap.size+1]? =o_ (c_ ar 38)∧agc p.pure now k=o_ r.pure∧w.heap.size+1 < wr.heap.size):=by
      have hl:=(J2.1 HI.I.box).1;exact ⟨ho,HI.I.cd.trans (hb.mono HI.I.cd.size),(hb.block _ hl).trans HI.I.box,by rw [HN.I,HI.I.pr rfl,if_pos rfl,(HI.I.yes rfl).2.is,hp],hl⟩
     clear ho hp hb HN HI;go_wp2_with (refine ec 6 38 r.cells H3.I.2.2.1 ?_);refine mG results12 (b_ true) H3.I.2.2.1 ?_;exact ZaO
end Go.Proofs.YtnlbiglljiopmaaGreatDoor

namespace Go.Proofs.YtnlbiglljiopmaaGreatDoor
open Go.RowKit
attribute [local go_sem ↓] Kc Kd
theorem ah0 (p:af) (now n:Int) (w:w_) (hb:p.Ud) (hc:p.ep w) (hi:p.Ints) (E:d_ × d_ × d_) (he:Ers w w.heap.size E) (hw: -9223372036854775808≤now∧now≤9223372036854775807):
  k_ J3 4 #[a_ p.cells,i_ j_ now,i_ j_ n] w fun e w'=>e=r_ (b_ true)∧B_ w.heap.size w w':=by
 have HB:Hid (p.Ud∧p.Ints):=⟨hb,hi⟩
 have HC:Hid (p.ep w):=hc;have HX:Hid (Az p w (w.alloc (c_ p.cells 29))):=⟨Kj _ _,(Kp _ _).alloc (Ki _) _⟩
 have HER:=aA (And.intro he hw); clear he hw;clear hb hc hi;unfold af.cells at *
 go_enter func4,ntmps4
 go_wp2_with fail;generalize w.alloc (c_ #[i_ j_ p.id,i_ j_ p.next,s_ p.aN p.L8.length p.aW,s_ p.bc p.aj.length p.bF,s_ p.ay p.L9.length p.aO,s_ p.ax p.ag.length p.aP,s_ p.am p.ae.length p.aG,s_ p.aK p.ai.length p.aV] 29)=W0 at *;refine (U6 p 1048576 W0 HB.I.1 (HC.I.below HX.I.2) (by omega) (by omega)).mono ?_;rintro e W1 ⟨r,rfl,r0,r1,hr,hb⟩;replace HX:=upX HX hb;clear hb;by_cases hneg:r < 0
 ·go_wp2
  go_ret;exact ⟨rfl,HX.I.2⟩
 have WX:Hid (p.yq∧p.pure.Small∧p.pure.total≤1048576):=⟨(hr (by omega)).1,UT (hr (by omega)).1 HB.I.2,by have:=(hr (by omega)).2; omega⟩
 clear hr;obtain ⟨ok,hok⟩: ∃ b:Bool,(agc p.pure now n).isSome=b:=⟨_,rfl⟩
 have HOK:Hid ((agc p.pure now n).isSome=ok):=hok;clear hok;have dn:(ok != ok)=false:=by simp
 obtain ⟨VQ,gn⟩: ∃ P,(agc p.pure now n).getD cN=P:=⟨_,rfl⟩
 have HPU:Hid ((agc p.pure now n).getD cN=VQ):=gn;clear gn;obtain ⟨m0,m1,m2,m3,m4,m5,m6,m7⟩:=ag9 HX.I.1;go_wp2_with fail;clear m0 m1 m2 m3 m4 m5 m6 m7;refine (Ve p W1 WX.I.1 (HC.I.below HX.I.2)).mono ?_;rintro e W2 ⟨p2,rfl,ho,hp,hb⟩;have HQ:Hid (ap W2 W1.heap.size p2∧p2.pure=p.pure∧p2.pure.Small):=⟨ho,hp,by rw [hp]; exact WX.I.2.1⟩
 replace HX:=upX HX hb;clear ho hp hb;go_wp2_with fail;refine (ahR p2 now n W2 (dV HQ.I.2.2) (fun x hx=>(cY HQ.I.2.2 hx).1) HQ.I.1.at HER.I.2).mono ?_;rintro e V3 hE;rw [HQ.I.2.1] at hE;obtain ⟨r3,rfl,ho,hp,hb⟩:=hE;rw [HOK.I];have hb2:B_ W2.heap.size W2 (V3.alloc (c_ r3.cells 38)):=hb.alloc hb.size _;have H3:Hid (o8 (V3.alloc (c_ r3.cells 38)) V3.heap.size W2.heap.size r3):=⟨Kj _ _,ho.below ((Kp _ _).alloc (Ki _) _)⟩
 have HP3:Hid (r3.pure=VQ):=hp.trans HPU.I;have HR:Hid ((∀ g∈r3.Mc,w.heap.size < g∧g < V3.heap.size)∧w.heap.size < V3.heap.size):=by
  have h5:=(J2.1 HX.I.1).1;have h6:=hb.size;exact ⟨fun g hg=>by have:=(ho.lt g hg); omega,by omega⟩
 clear ho hp HQ;replace HX:=upX HX hb2;obtain ⟨m0,m1,m2,m3,m4,m5,m6,m7⟩:=ag9 HX.I.1;unfold af.cells at *;go_wp2_with fail;clear m0 m1 m2 m3 m4 m5 m6 m7;generalize V3.alloc (c_ #[i_ j_ r3.id,i_ j_ r3.next,s_ r3.aN r3.L8.length r3.aW,s_ r3.bc r3.aj.length r3.bF,s_ r3.ay r3.L9.length r3.aO,s_ r3.ax r3.ag.length r3.aP,s_ r3.am r3.ae.length r3.aG,s_ r3.aK r3.ai.length r3.aV] 38)=W3 at *;have hxl:=H3.I.1.lt;generalize V3.heap.size=X3 at *;clear hb2 hb;refine (Ve p W3 WX.I.1 (HC.I.below HX.I.2)).mono ?_;rintro e V4 ⟨p4,rfl,ho,hp,hb⟩;have hb2:B_ W3.heap.size W3 (V4.alloc (c_ p4.cells 38)):=hb.alloc hb.size _;have H4:Hid (o8 (V4.alloc (c_ p4.cells 38)) V4.heap.size W3.heap.size p4):=⟨Kj _ _,ho.below ((Kp _ _).alloc (Ki _) _)⟩
 have I2:Hid (p4.pure=p.pure∧p4.pure.Small∧(∀ g∈p4.Mc,X3 < g∧g < V4.heap.size)∧X3 < V4.heap.size):=⟨hp,by rw [hp]; exact WX.I.2.1,fun g hg=>by have:=ho.lt g hg; omega,by have:=hb.size; omega⟩
 replace HX:=upX HX hb2;replace H3:=upI H3 hb2;obtain ⟨b0,b1,b2,b3,b4,b5,b6,b7⟩:=H4.I.1.cells;unfold af.cells at *;go_wp2_with fail;clear b0 b1 b2 b3 b4 b5 b6 b7;generalize V4.alloc (c_ #[i_ j_ p4.id,i_ j_ p4.next,s_ p4.aN p4.L8.length p4.aW,s_ p4.bc p4.aj.length p4.bF,s_ p4.ay p4.L9.length p4.aO,s_ p4.ax p4.ag.length p4.aP,s_ p4.am p4.ae.length p4.aG,s_ p4.aK p4.ai.length p4.aV] 38)=W4 at *;have hxl4:=H4.I.1.lt;generalize V4.heap.size=X4 at *;clear hb2 hb ho hp hxl;refine (agC p4 now n E W4 (uG I2.I.2.1 H4.I.2) ((HER.I.1.below HX.I.2).up HX.I.2.size) HER.I.2).mono ?_;rintro e V5 hE;rw [I2.I.1] at hE;obtain ⟨r5,rfl,ho,hp,hb⟩:=hE;rw [HOK.I];have hb2:B_ W4.heap.size W4 (V5.alloc (c_ r5.cells 38)):=hb.alloc hb.size _;have H5:Hid (o8 (V5.alloc (c_ r5.cells 38)) V5.heap.size W4.heap.size r5):=⟨Kj _ _,ho.below ((Kp _ _).alloc (Ki _) _)⟩
 have HP5:Hid (r5.pure=VQ∧(∀ g∈r5.Mc,X4 < g∧g < V5.heap.size)∧X4 < V5.heap.size):=⟨hp.trans HPU.I,fun g hg=>by have:=ho.lt g hg; omega,by have:=hb.size; omega⟩
 clear ho hp hxl4;replace HX:=upX HX hb2;replace H3:=upI H3 hb2;replace H4:=upI H4 hb2;obtain ⟨v0,v1,v2,v3,v4,v5,v6,v7⟩:=H3.I.1.cells;unfold af.cells at *;go_wp2_with fail;clear v0 v1 v2 v3 v4 v5 v6 v7;generalize V5.alloc (c_ #[i_ j_ r5.id,i_ j_ r5.next,s_ r5.aN r5.L8.length r5.aW,s_ r5.bc r5.aj.length r5.bF,s_ r5.ay r5.L9.length r5.aO,s_ r5.ax r5.ag.length r5.aP,s_ r5.am r5.ae.length r5.aG,s_ r5.aK r5.ai.length r5.aV] 38)=W5 at *;generalize V5.heap.size=YV at *;clear hb2 hb;have HE:Hid (r3.pure=r5.pure):=HP3.I.trans HP5.I.1.symm;have HL:Hid (r5.pure.Small):=by rw [HP5.I.1,← HPU.I]; exact (agP fun _=>agT).1
 refine (Vb r5 r3 W5 HL.I HE.I H5.I.2.at H3.I.2.at).mono ?_;rintro e W6 ⟨rfl,hb⟩;replace HX:=upX HX hb;replace H3:=upI H3 hb;replace H4:=upI H4 hb;replace H5:=upI H5 hb;clear hb;go_wp2_with fail;refine Kr (S:=fun w'=>av w' X4 p4∧w'.heap[w.heap.size]? =o_ (c_ p.cells 29)) ZcR ⟨H4.I.1,HX.I.1⟩ (fun hHeld=> ?_);refine tkr 0 (v:=a_ p4.cells) rfl (Ib (by rfl) 38 _ rfl X4 (by rfl) 38 _ _ (fun _ h=>h.1) underlying38 rfl ZcR) hHeld ?_; simp only [pt,sb,s0,s1];refine tkr 1 (v:=a_ p.cells) rfl (Ib (by rfl) 29 _ rfl w.heap.size (by rfl) 29 _ _ (fun _ h=>h.2) underlying29 rfl ZcR) hHeld ?_; simp only [pt,sb,s0,s1];refine KW (rs:= [2]) ZcR (by simp) ?_;refine KX rfl (fun K hK=> ?_) KY;simp only [Y5,gz,gs]; rw [if_pos (by rfl)];go_wp2_with fail;refine (Ve p W6.drew WX.I.1 (HC.I.below HX.I.2.drew)).mono ?_;rintro e W7 ⟨YH,rfl,ho,hp,hb2⟩;have hb:B_ W6.heap.size W6 W7:=Ht hb2;have H7:Hid (af.At W7 YH∧YH.pure=p4.pure):=⟨ho.at,by rw [hp,I2.I.1]⟩
 replace HX:=upX HX hb;replace H3:=upI H3 hb;replace H4:=upI H4 hb;replace H5:=upI H5 hb;clear hb hb2 ho hp hHeld;refine hK.out _ _ ⟨H4.I.1,HX.I.1⟩ (fun hHeld=> ?_); clear hK K; try simp only [pt,sb,s0,s1]
 refine KW (rs:= [3]) ZcR (by simp) ?_;refine KX rfl (fun K hK=> ?_) KY;simp only [Y5,gz,gs]; rw [if_pos (by rfl)];go_wp2_with fail;refine (Vb p4 YH W7 I2.I.2.1 H7.I.2 H4.I.2.at H7.I.1).mono ?_;rintro e W8 ⟨rfl,hb⟩;replace HX:=upX HX hb;replace H3:=upI H3 hb;replace H4:=upI H4 hb;replace H5:=upI H5 hb;clear hb H7;refine hK.out _ _ ⟨H4.I.1,HX.I.1⟩ (fun hHeld=> ?_); clear hK K; try simp only [pt,sb,s0,s1]
 refine tkr 4 (v:=b_ false) rfl (Or.inl ⟨by rfl,fun _ _=>rfl⟩) ⟨H4.I.1,HX.I.1⟩ ?_; simp only [pt,sb,s0,s1];refine K3 ZcR ?_ _;clear hHeld;obtain ⟨b0,b1,b2,b3,b4,b5,b6,b7⟩:=H4.I.1.cells;have uE:Hid (1+(fb p4:Nat)≤(90000000:Int)):=by have h5:=Wy p4; rw [I2.I.1] at h5; have h6:=WX.I.2.2; show (1:Int)+_≤_; omega
 go_wp2_with fail;clear b0 b1 b2 b3 b4 b5 b6 b7;refine (WG p4 1 W8 W3.heap.size (Wh I2.I.2.1) (by omega) uE.I H4.I.2).mono ?_;rintro e VR ⟨rfl,-,hkb⟩;have hrw:=HR.I;have hr4:=I2.I.2.2;have WU:=HP5.I.2;replace HX:Hid (Az p w VR):=HX.I.kept hkb fun g hm=>by have:=hr4.1 g hm; omega
 replace H3:Hid (o8 VR X3 W2.heap.size r3):=H3.I.kept hkb (fun hm=>by have:=hr4.1 _ hm; omega) (fun g hg hm=>by have:=hr4.1 g hm; have:=hrw.1 g hg; omega);replace H5:Hid (o8 VR YV W4.heap.size r5):=H5.I.kept hkb (fun hm=>by have:=hr4.1 _ hm; omega) (fun g hg hm=>by have:=hr4.1 g hm; have:=WU.1 g hg; omega);clear H4 hkb hrw hr4 WU;have nn:decide ((1:Int)+(fb p4:Nat) < 0)=false:=decide_eq_false (by omega);obtain ⟨u0,u1,u2,u3,u4,u5,u6,u7⟩:=H5.I.1.cells;obtain ⟨v0,v1,v2,v3,v4,v5,v6,v7⟩:=H3.I.1.cells;go_wp2_with fail;clear u0 u1 u2 u3 u4 u5 u6 u7;clear v0 v1 v2 v3 v4 v5 v6 v7;clear nn;refine (Vb r5 r3 VR HL.I HE.I H5.I.2.at H3.I.2.at).mono ?_;rintro e W10 ⟨rfl,hb⟩;replace HX:=upX HX hb;replace H3:=upI H3 hb;replace H5:=upI H5 hb;clear hb;obtain ⟨u0,u1,u2,u3,u4,u5,u6,u7⟩:=H5.I.1.cells;go_wp2_with fail;clear u0 u1 u2 u3 u4 u5 u6 u7;have HCR:Hid (1+(fb r5:Nat)≤(90000000:Int)):=by have h5:=Wy r5; have h6:r5.pure.total≤1048577:=(by rw [HP5.I.1,← HPU.I]; exact Nat.le_trans (agP fun _=>agT).2 (by have h7:=WX.I.2.2; omega)); show (1:Int)+_≤_; omega
 refine (WG r5 1 W10 W4.heap.size (Wh HL.I) (by omega) HCR.I H5.I.2).mono ?_;rintro e Yt ⟨rfl,hmk,hkb⟩;have hrw:=HR.I;have hr4:=I2.I.2.2;have WU:=HP5.I.2;replace HX:Hid (Az p w Yt):=HX.I.kept hkb fun g hm=>by have:=WU.1 g hm; omega
 replace H3:Hid (o8 Yt X3 W2.heap.size r3):=H3.I.kept hkb (fun hm=>by have:=WU.1 _ hm; omega) (fun g hg hm=>by have:=WU.1 g hm; have:=hrw.1 g hg; omega);have Dk:Hid (av Yt YV r5):=(hkb.same _ H5.I.1.lt fun hm=>by have:=WU.1 _ hm; omega).trans H5.I.1;have HM:Hid (ap Yt W4.heap.size (nF 1 r5)):=hmk;clear H5 hkb hmk hrw hr4 WU;obtain ⟨u0,u1,u2,u3,u4,u5,u6,u7⟩:=Dk.I.cells;go_wp2_with fail;clear u0 u1 u2 u3 u4 u5 u6 u7;refine (Wr r5 1 Yt (Wh HL.I) (by omega) HCR.I HM.I.at).mono ?_;rintro e ZH ⟨rfl,hb⟩;replace HX:=upX HX hb;replace H3:=upI H3 hb;replace Dk:=upB Dk hb;replace HM:=upM HM hb;clear hb;have nq: ¬ (1:Int)+(fb r5:Nat) < 0:=by omega
 have nd:((1:Int)+(fb r5:Nat) != 1+(fb r5:Nat))=false:=by simp
 obtain ⟨m0,m1,m2,m3,m4,m5,m6,m7⟩:=ag9 HX.I.1;go_wp2_with fail;clear m0 m1 m2 m3 m4 m5 m6 m7;refine (Ve p ZH WX.I.1 (HC.I.below HX.I.2)).mono ?_;rintro e W13 ⟨p13,rfl,ho,hp,hb⟩;have HQ:Hid (ap W13 ZH.heap.size p13∧p13.pure=p.pure∧p13.pure.Small):=⟨ho,hp,by rw [hp]; exact WX.I.2.1⟩
 replace HX:=upX HX hb;replace H3:=upI H3 hb;replace Dk:=upB Dk hb;replace HM:=upM HM hb;clear ho hp hb;go_wp2_with fail;refine (agC p13 now n E W13 (uG HQ.I.2.2 HQ.I.1) ((HER.I.1.below HX.I.2).up HX.I.2.size) HER.I.2).mono ?_;rintro e V14 hE;rw [HQ.I.2.1] at hE;obtain ⟨Wn,rfl,ho,aje,hb⟩:=hE;rw [HOK.I];have hb2:B_ W13.heap.size W13 (V14.alloc (c_ Wn.cells 38)):=hb.alloc hb.size _;have H14:Hid (o8 (V14.alloc (c_ Wn.cells 38)) V14.heap.size W13.heap.size Wn):=⟨Kj _ _,ho.below ((Kp _ _).alloc (Ki _) _)⟩
 have HE14:Hid (r3.pure=Wn.pure):=HP3.I.trans (aje.trans HPU.I).symm;have HL14:Hid (Wn.pure.Small):=by rw [aje]; exact (agP fun _=>agT).1
 clear ho aje HQ;replace HX:=upX HX hb2;replace H3:=upI H3 hb2;replace Dk:=upB Dk hb2;replace HM:=upM HM hb2;obtain ⟨v0,v1,v2,v3,v4,v5,v6,v7⟩:=H3.I.1.cells;unfold af.cells at *;go_wp2_with fail;clear v0 v1 v2 v3 v4 v5 v6 v7;generalize V14.alloc (c_ #[i_ j_ Wn.id,i_ j_ Wn.next,s_ Wn.aN Wn.L8.length Wn.aW,s_ Wn.bc Wn.aj.length Wn.bF,s_ Wn.ay Wn.L9.length Wn.aO,s_ Wn.ax Wn.ag.length Wn.aP,s_ Wn.am Wn.ae.length Wn.aG,s_ Wn.aK Wn.ai.length Wn.aV] 38)=W14 at *;generalize V14.heap.size=X14 at *;clear hb2 hb;refine (Vb Wn r3 W14 HL14.I HE14.I H14.I.2.at H3.I.2.at).mono ?_;rintro e W15 ⟨rfl,hb⟩;replace HX:=upX HX hb;replace H3:=upI H3 hb;replace Dk:=upB Dk hb;replace HM:=upM HM hb;clear hb;obtain ⟨u0,u1,u2,u3,u4,u5,u6,u7⟩:=Dk.I.cells;go_wp2_with fail;clear u0 u1 u2 u3 u4 u5 u6 u7;refine (Wr r5 1 W15 (Wh HL.I) (by omega) HCR.I HM.I.at).mono ?_;rintro e W16 ⟨rfl,hb⟩;replace HX:=upX HX hb;replace H3:=upI H3 hb;replace Dk:=upB Dk hb;replace HM:=upM HM hb;clear hb;go_wp2;go_ret;exact ⟨rfl,HX.I.2⟩
end Go.Proofs.YtnlbiglljiopmaaGreatDoor
