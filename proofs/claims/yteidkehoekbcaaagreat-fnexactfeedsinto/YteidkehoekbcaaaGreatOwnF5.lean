/- What the proof leans on, part 5. -/
import Derived.Test.YteidkehoekbcaaaGreatOwnK26
import Derived.Test.YteidkehoekbcaaaGreatOwnF3
import Derived.Test.YteidkehoekbcaaaGreatOwnF4
import Derived.Sort.OwnSortedInts
set_option maxRecDepth 100000
set_option maxHeartbeats 8000000
open Array renaming getElem?_eq_some_iff->J2
open Go renaming heap_alloc_new->Kj,wp_at_succ->Kd,wp_at_zero->Kc
open Go.Proofs.Tryz renaming prog->J3
open Go.RowKit.Below renaming refl->Kp
open Go.World renaming cell?_of_block->J1,ownsRow_nil->Ke
open List renaming append_assoc->Lm,getElem?_eq_getElem->Kz,length_append->Lf,mem_append->Kg,mem_append_left->Lz,mem_append_right->Ly,mem_cons->Kt,mem_cons_of_mem->LB,mem_filterMap->Lq,mem_map->Lr,mem_singleton->KB,nodup_append->Kf
open Nat renaming le_refl->Ki,le_trans->LG,zero_le->Ky
open Option.some renaming injEq->LF

namespace Go.Proofs.YteidkehoekbcaaaGreat
section
open Go.RowKit Go.Maps
attribute [local go_sem ↓] Kc Kd
def Nbr (cs:List eQ) (q:eQ→Bool) (i:Int) (l:List Int):Prop:= ∀ c∈cs,(c.dst=i→c.src∈l)∧(q c=true→c.src=i→c.dst∈l)
section
variable {cs:List eQ} {q:eQ→Bool} {ids l l1 l2 l3:List Int} {id z i:Int} {n:Nat} {c:eQ}
theorem Nbr.mono (h:Nbr cs q i l) (hs: ∀ x∈l,x∈l2):Nbr cs q i l2:=fun c hc=>⟨fun e=>hs _ ((h c hc).1 e),fun hq e=>hs _ ((h c hc).2 hq e)⟩
theorem Yj (h1:XT cs q id z) (h2:XT cs q z i):XT cs q id i:=fun P hp hs=>h2 P (h1 P hp hs) hs
structure Found (cs:List eQ) (q:eQ→Bool) (ids l:List Int) (id:Int) (l':List Int):Prop where
 nodup:l'.Nodup
 ids: ∀ i∈l',i∈ids
 ext: ∃ t,l'=l ++ t∧ ∀ i∈t,XT cs q id i∧Nbr cs q i l'
 has:id∈l'
structure Xp (cs:List eQ) (q:eQ→Bool) (ids l1:List Int) (id:Int) (n:Nat) (l2:List Int):Prop where
 nodup:l2.Nodup
 ids: ∀ i∈l2,i∈ids
 ext: ∃ t,l2=l1 ++ t∧ ∀ i∈t,XT cs q id i∧Nbr cs q i l2
 done:Nbr (cs.take n) q id l2
theorem Xp.call (h:Xp cs q ids l1 id n l2) (hz:XT cs q id z) (hf:Found cs q ids l2 z l3):Xp cs q ids l1 id n l3∧z∈l3∧ ∀ x∈l2,x∈l3:=by
 obtain ⟨t,e,ht⟩:=h.ext;obtain ⟨t2,e2,ht2⟩:=hf.ext;have hs: ∀ x∈l2,x∈l3:=fun x hx=>by rw [e2]; exact Lz _ hx
 refine ⟨⟨hf.nodup,hf.ids,⟨t ++ t2,by rw [e2,e,Lm],fun i hi=> ?_⟩,h.done.mono hs⟩,hf.has,hs⟩;rcases Kg.1 hi with hi | hi
 ·exact ⟨(ht i hi).1,(ht i hi).2.mono hs⟩
 ·exact ⟨Yj hz (ht2 i hi).1,(ht2 i hi).2⟩
theorem Xp.next (h:Xp cs q ids l1 id n l2) (hc:cs[n]? =some c) (h1:c.dst=id→c.src∈l2) (h2:q c=true→c.src=id→c.dst∈l2):Xp cs q ids l1 id (n+1) l2:=
 ⟨h.nodup,h.ids,h.ext,fun d hd=>by
  rw [cj hc] at hd;rcases Kg.1 hd with hd | hd
  ·exact h.done d hd
  ·rw [KB.1 hd]; exact ⟨h1,h2⟩⟩
theorem Xp.start (hn:l.Nodup) (hi: ∀ i∈l,i∈ids) (hid:id∈ids) (hnot:id∉l):Xp cs q ids (l ++ [id]) id 0 (l ++ [id]):=
 ⟨Kf.2 ⟨hn,by simp,fun x hx y hy e=>hnot (by rw [KB.1 hy] at e; rw [← e]; exact hx)⟩,fun i hm=>by
  rcases Kg.1 hm with hm | hm
  ·exact hi i hm
  ·rw [KB.1 hm]; exact hid,⟨[],by simp,fun i hi=>by cases hi⟩,fun c hc=>by simp at hc⟩
theorem Xp.len (h:Xp cs q ids (l ++ [id]) id n l2):l.length < l2.length∧l2.length≤ids.length:=by
 obtain ⟨t,e,-⟩:=h.ext;refine ⟨by rw [e]; simp,Xs h.nodup h.ids⟩
theorem Xp.end (h:Xp cs q ids (l ++ [id]) id n l2) (hn:cs.length≤n):Found cs q ids l id l2:=by
 obtain ⟨t,e,ht⟩:=h.ext;have hd:=h.done;rw [List.take_of_length_le hn] at hd;exact ⟨h.nodup,h.ids,⟨[id] ++ t,by rw [e,Lm],fun i hi=>by
  rcases Kg.1 hi with hi | hi
  ·rw [KB.1 hi]; exact ⟨XA,hd⟩
  ·exact ht i hi⟩,by rw [e]; simp⟩
end
structure Xh (V:World) (F N:Nat) (l:List Int) (a:Option Addr) (cap:Nat) (W:World):Prop where
 kept:aI V W [F]
 XS:W.heap[F]? =some (.cells #[.slice a l.length cap] 57 (0,0))
 own:W.ownsRow N 2 1 (.slice a l.length cap) l.length (Xn l)
section
variable {V W W2:World} {F N:Nat} {l:List Int} {a:Option Addr} {cap:Nat}
theorem Xh.below (h:Xh V F N l a cap W) (hb:Below W.heap.size W W2):Xh V F N l a cap W2:=⟨h.kept.trans (.dI hb),(hb.block _ (J2.1 h.XS).1).trans h.XS,cR h.own hb⟩
theorem Xh.more {a2:Option Addr} {Ta:Nat} {W7:World} {z:Int} (h:Xh V F N l a cap W) (hF:F < N) (hN:V.heap.size≤N) (ho:W7.ownsRow N 2 1 (.slice a2 (l.length+1) Ta) (l.length+1) (Xn (l ++ [z]))) (hk:aI W W7 (blk a)):Xh V F N (l ++ [z]) a2 Ta (W7.setCell ⟨F,0,none⟩ (.slice a2 (l.length+1) Ta)):=by
 have hlow: ∀ g∈blk a,N≤g:=fun g hg=>(cf h.own hg).1
 have hf7:W7.heap[F]? =some (.cells #[.slice a l.length cap] 57 (0,0)):=(hk.same F (J2.1 h.XS).1 fun hm=>by have:=hlow F hm; omega).trans h.XS;have h7:aI V W7 [F] :=⟨hk.os.trans h.kept.os,hk.tape.trans h.kept.tape,hk.output.trans h.kept.output,LG h.kept.size hk.size,fun g hg hn=>(hk.same g (by have:=h.kept.size; omega) fun hm=>by have:=hlow g hm; omega).trans (h.kept.same g hg hn)⟩
 refine ⟨h7.trans (aI.set (off:=0) [_] (by simp)),?_,?_⟩
 ·rw [Lf,List.length_singleton]
  simp [World.setCell,Array.getElem?_modify,hf7]
 ·rw [Lf,List.length_singleton]
  exact aL ho fun g hg=>Go.Deep.blk_setCell_other _ _ _ _ (by have:=(cf ho hg).1; show g≠F; omega)
end
structure Env (V:World) (K H:Nat) (la:Option Addr) (Yk:Nat) (ls:List gi) (q:eQ→Bool) (ids:List Int):Prop where
 kbox:V.heap[H]? =some (.cells #[.pointer (some ⟨K,0,none⟩)] 89 (0,0))
 find:V.heap[H+2]? =some (.cells #[.func (.func 127) #[] #[.pointer (some ⟨H+1,0,none⟩),.pointer (some ⟨H,0,none⟩),.pointer (some ⟨H+2,0,none⟩)]] 126 (0,0))
 cell:V.cell? ⟨K,64,none⟩=some (.slice la ls.length Yk)
 VS:K < H
 row:Row V la (qo.flat ls)
 rowl: ∀ g∈blk la,g < H
 port: ∀ o∈ls,∃ x:aM,V.heap[o.s]? =some (.cells (cW x) 85 (0,0))∧x.Mf=q o.c∧o.s < H
 mem: ∀ o∈ls,o.c.src∈ids∧o.c.dst∈ids
 short:ls.length≤10∧ids.length≤6
 size:V.heap.size=H+3
section
variable {V W:World} {K H:Nat} {la:Option Addr} {Yk:Nat} {ls:List gi} {q:eQ→Bool} {ids:List Int}
theorem Env.kept (h:Env V K H la Yk ls q ids) (hk:aI V W [H+1]):W.cell? ⟨H,0,none⟩=some (.pointer (some ⟨K,0,none⟩))∧W.cell? ⟨H+2,0,none⟩=some (.func (.func 127) #[] #[.pointer (some ⟨H+1,0,none⟩),.pointer (some ⟨H,0,none⟩),.pointer (some ⟨H+2,0,none⟩)])∧W.cell? ⟨K,64,none⟩=some (.slice la ls.length Yk)∧Row W la (qo.flat ls)∧ ∀ o∈ls,∃ x:aM,W.heap[o.s]? =some (.cells (cW x) 85 (0,0))∧x.Mf=q o.c:=by
 have hs:=h.size;have hkf:=h.VS;have e1:W.heap[H]? =_:=(hk.same H (by omega) (by simp)).trans h.kbox;have e2:W.heap[H+2]? =_:=(hk.same (H+2) (by omega) (by simp)).trans h.find;refine ⟨by simp [World.cell?,e1],by simp [World.cell?,e2],(J1 (w:=V) (a:=⟨K,64,none⟩) (hk.same K (by omega) (by simp; omega))).trans h.cell,XZ h.row fun g hg=>hk.same g (by have:=h.rowl g hg; omega) (by have:=h.rowl g hg; simp; omega),fun o ho=> ?_⟩;obtain ⟨x,hx,hq,hl⟩:=h.port o ho;exact ⟨x,(hk.same o.s (by omega) (by simp; omega)).trans hx,hq⟩
end
structure Xm (F:Nat) (W:World) (a:Option Addr) (W':World) (a':Option Addr):Prop where
 kept:aI W W' (F :: blk a)
 new: ∀ g∈blk a',g∈blk a∨W.heap.size≤g
section
variable {F:Nat} {W W1 W2:World} {a a1 a2:Option Addr}
theorem Xm.refl:Xm F W a W a:=⟨aI.refl _ _,fun _ h=> .inl h⟩
theorem Xm.trans (h:Xm F W a W1 a1) (h':Xm F W1 a1 W2 a2):Xm F W a W2 a2:=
 ⟨⟨h'.kept.os.trans h.kept.os,h'.kept.tape.trans h.kept.tape,h'.kept.output.trans h.kept.output,LG h.kept.size h'.kept.size,fun g hg hn=>(h'.kept.same g (by have:=h.kept.size; omega) fun hm=>by
  rcases Kt.1 hm with e | hm
  ·exact hn (by simp [e])
  ·rcases h.new g hm with h5 | h5
   ·exact hn (LB _ h5)
   ·omega).trans (h.kept.same g hg hn)⟩,fun g hg=>by
  rcases h'.new g hg with h5 | h5
  ·exact h.new g h5
  ·exact .inr (LG h.kept.size h5)⟩
theorem Xm.below (h:Xm F W a W1 a1) (hb:Below W1.heap.size W1 W2):Xm F W a W2 a1:=⟨h.kept.trans (.dI hb),h.new⟩
end
def Yu (V:World) (H:Nat) (ls:List gi) (q:eQ→Bool) (ids l:List Int) (id:Int) (W0:World) (a0:Option Addr) (e:Ending) (W:World):Prop:=e= .returned (.tuple #[])∧ ∃ (l':List Int) (a:Option Addr) (cap:Nat),Xh V (H+1) V.heap.size l' a cap W∧Found (ls.map (·.c)) q ids l id l'∧Xm (H+1) W0 a0 W a
theorem XK {W:World} {X:Nat} {o:gi} (h:W.heap[X]? =some (.cells (fz o) 205 (0,0))):W.cell? ⟨X,0,none⟩=some (.int .i64 o.c.src)∧W.cell? ⟨X,2,none⟩=some (.int .i64 o.c.dst)∧W.cell? ⟨X,4,none⟩=some (.pointer (some ⟨o.s,0,none⟩)):=by
 simp [World.cell?,h]
theorem Yn (V:World) (K H:Nat) (la:Option Addr) (Yk:Nat) (ls:List gi) (q:eQ→Bool) (ids:List Int) (hE:Env V K H la Yk ls q ids): ∀ (m:Nat) (l:List Int) (a:Option Addr) (cap:Nat) (W:World) (id:Int),Xh V (H+1) V.heap.size l a cap W→l.Nodup→(∀ i∈l,i∈ids)→id∈ids→ids.length+1 - l.length≤m→
  Calls J3 127 #[.int .i64 id,.pointer (some ⟨H+1,0,none⟩),.pointer (some ⟨H,0,none⟩),.pointer (some ⟨H+2,0,none⟩)] W fun e W'=>Yu V H ls q ids l id W a e W':=by
 intro m
 induction m with
 | zero=>intro l a cap W id h hn hi hid hm; have:=Xs hn hi; omega
 | succ m ih=>
  intro l a cap W id hD hn hi hid hm;have IH:=aA ih;have HE:=aA hE;have S:=aA hD;have HP:=aA (And.intro hn (And.intro hi (And.intro hid hm)));have HL:Hid (l.length≤6):=by show l.length≤6; have:=Xs hn hi; have:=hE.short; omega
  clear ih hE hD hn hi hid hm;have c0:W.cell? ⟨H+1,0,none⟩=some (.slice a l.length cap):=by simp [World.cell?,S.I.XS]
  have Mb:=Yg a l cap id W (by have:=HL.I; omega) (nP S.I.own)
  go_enter Tryz.func127,Tryz.ntmps127
  go_wp2_with fail;refine Mb.mono ?_;clear Mb;rintro e W1 ⟨rfl,rfl⟩;by_cases hin:id∈l
  ·have HN:Hid (Found (ls.map (·.c)) q ids l id l):=⟨HP.I.1,HP.I.2.1,⟨[],by simp,fun i hi=>by cases hi⟩,hin⟩
   rw [decide_eq_true hin];clear hin;go_wp2
   go_end0
   exact ⟨rfl,l,a,cap,S.I,HN.I,Xm.refl⟩
  obtain ⟨a2,Ta,W3,hap,ho,hkp,hbl⟩:=XB id S.I.own (by have:=HL.I; omega) S.I.kept.size;have ES:Hid (Xp (ls.map (·.c)) q ids (l ++ [id]) id 0 (l ++ [id])):=Xp.start HP.I.1 HP.I.2.1 HP.I.2.2.1 hin;have S1:=aA (S.I.more (by have:=HE.I.size; omega) (Ki _) ho hkp);have hf3:W3.heap[H+1]? =some (.cells #[.slice a l.length cap] 57 (0,0)):=(hkp.same _ (J2.1 S.I.XS).1 fun hm=>by have:=(cf S.I.own hm).1; have:=HE.I.size; omega).trans S.I.XS;have d0:W3.cell? ⟨H+1,0,none⟩=some (.slice a l.length cap):=by simp [World.cell?,hf3]
  have f0:W3.frozen? ⟨H+1,0,none⟩=false:=by simp [World.frozen?,hf3]
  rw [decide_eq_false hin];have HG:Hid (Xm (H+1) W1 a (W3.setCell ⟨H+1,0,none⟩ (.slice a2 (l.length+1) Ta)) a2):=⟨(hkp.mono fun g hg=>LB _ hg).trans (aI.set (off:=0) [_] (by simp)),hbl⟩
  clear hin ho hkp hf3 hbl;go_upto_region 2 with (at_builtin; refine br _ rfl _ _ 57 rfl _ _ _ _ rfl rfl hap ?_);clear d0 f0 c0 hap S;generalize W3.setCell ⟨H+1,0,none⟩ (.slice a2 (l.length+1) Ta)=W4 at *;obtain ⟨e0,-,e2,-,-⟩:=HE.I.kept S1.I.kept;go_wp2_with fail;clear e0 e2;have hls:ls.length≤10:=HE.I.short.1
  go_loopw [19] (fun j wr=> ∃ (n:Nat) (l2:List Int) (a3:Option Addr) (UY:Nat),n≤ls.length∧j= .int .i64 n∧Hid (Xh V (H+1) V.heap.size l2 a3 UY wr∧Xp (ls.map (·.c)) q ids (l ++ [id]) id n l2∧Xm (H+1) W1 a wr a3)) (fun j _=>ls.length - (Go.RowKit.intOf j).toNat)
  case atStart=>exact ⟨0,l ++ [id],a2,Ta,Ky _,rfl,S1.I,ES.I,HG.I⟩
  case round=>
   clear S1 ES HG;obtain ⟨n,l2,a3,UY,hn,rfl,S⟩:=hrel;by_cases hlt:n < ls.length
   ·have i0:(0:Int)≤(n:Int):=by omega
    have i1:(n:Int) < (ls.length:Int):=by omega
    obtain ⟨o,ho⟩: ∃ o,ls[n]? =some o:=⟨_,Kz hlt⟩
    obtain ⟨e0,-,e2,hrow,-⟩:=HE.I.kept S.I.1.kept;obtain ⟨gl,rfl,k0,k1,k2,k3,k4,k5⟩:=Vq hrow ho;have hom:=List.mem_of_getElem? ho;have HO:Hid ((ls.map (·.c))[n]? =some o.c∧o∈ls∧o.c.src∈ids∧o.c.dst∈ids∧o.c∈ls.map (·.c)):=⟨by rw [List.getElem?_map,ho]; rfl,hom,(HE.I.mem o hom).1,(HE.I.mem o hom).2,Lr.2 ⟨o,hom,rfl⟩⟩
    clear ho hom hrow e0 e2;go_upto_region 5 with fail;clear k0 k1 k2 k3 k4 k5;have hz:Below wr.heap.size wr (wr.alloc (.cells (fz o) 205)):=(Kp _ _).alloc (Ki _) _;have HX:Hid ((wr.alloc (.cells (fz o) 205)).heap[wr.heap.size]? =some (.cells (fz o) 205 (0,0))∧H+1≠wr.heap.size):=⟨Kj _ _,by have:=S.I.1.kept.size; have:=HE.I.size; omega⟩
    have HXB:Hid (∀ g∈blk a3,g≠wr.heap.size):=fun g hg=>by have:=(cf S.I.1.own hg).2; omega
    replace S:=aA (And.intro (S.I.1.below hz) (And.intro S.I.2.1 (S.I.2.2.below hz)));clear hz;generalize wr.alloc (.cells (fz o) 205)=W5 at *;generalize wr.heap.size=X at *;by_cases hd:o.c.dst=id
    ·have HM:Hid (ids.length+1 - l2.length≤m):=by show _≤m; have h5:=S.I.2.1.len; have h6:=HP.I.2.2.2; omega
     have Mb:=IH.I l2 a3 UY W5 o.c.src S.I.1 S.I.2.1.nodup S.I.2.1.ids HO.I.2.2.1 HM.I;have Yx:Hid (XT (ls.map (·.c)) q id o.c.src):=Yi HO.I.2.2.2.2 (by rw [hd]; exact XA);have e1:(o.c.dst == id)=true:=by simp [hd]
     obtain ⟨b0,b2,b4⟩:=XK HX.I.1;obtain ⟨-,e3,-,-,-⟩:=HE.I.kept S.I.1.kept;clear hd;go_wp2_with fail;clear b0 b2 b4 e3 e1;refine Mb.mono ?_;clear Mb;rintro e W6 ⟨rfl,l3,a4,XM,hD,hF,hG⟩;have hx6:=(hG.kept.same X (J2.1 HX.I.1).1 (fun hm=>by
      rcases Kt.1 hm with e | hm
      ·exact HX.I.2 e.symm
      ·exact HXB.I X hm rfl)).trans HX.I.1
     obtain ⟨q1,q2,-⟩:=S.I.2.1.call Yx.I hF;replace S:Hid (Xh V (H+1) V.heap.size l3 a4 XM W6∧Xp (ls.map (·.c)) q ids (l ++ [id]) id n l3∧Xm (H+1) W1 a W6 a4∧(o.c.dst=id→o.c.src∈l3)):=⟨hD,q1,S.I.2.2.trans hG,fun _=>q2⟩
     replace HX:Hid (W6.heap[X]? =some (.cells (fz o) 205 (0,0))):=hx6;clear hD hF hG hx6 q1 q2 Yx HM HXB;go_upto_region 7 with fail;obtain ⟨b0,b2,b4⟩:=XK HX.I;obtain ⟨-,e3,-,-,hpt⟩:=HE.I.kept S.I.1.kept;obtain ⟨x,hx,hxq⟩:=hpt o HO.I.2.1;have p2:=(gg hx).2;have HXQ:=aA hxq;clear hpt hx hxq;by_cases hs:o.c.src=id
     case neg=>
      have HN:Hid (Xp (ls.map (·.c)) q ids (l ++ [id]) id (n+1) l3):=S.I.2.1.next HO.I.1 S.I.2.2.2 (fun _ h=>absurd h hs);have e1:(o.c.src == id)=false:=by simp [hs]
      clear hs;go_wp2;go_roundw
      case rel=>exact ⟨n+1,l3,a4,XM,by omega,by go_num,S.I.1,HN.I,S.I.2.2.1⟩
      case measure=>simp [Go.RowKit.intOf]; omega
     have e1:(o.c.src == id)=true:=by simp [hs]
     have HSI:=aA hs;clear hs;cases hq:x.Mf
     ·have HN:Hid (Xp (ls.map (·.c)) q ids (l ++ [id]) id (n+1) l3):=S.I.2.1.next HO.I.1 S.I.2.2.2 (fun h=>by rw [← HXQ.I,hq] at h; cases h)
      rw [hq] at p2;clear hq;go_wp2;go_roundw
      case rel=>exact ⟨n+1,l3,a4,XM,by omega,by go_num,S.I.1,HN.I,S.I.2.2.1⟩
      case measure=>simp [Go.RowKit.intOf]; omega
     rw [hq] at p2;have HM:Hid (ids.length+1 - l3.length≤m):=by show _≤m; have h5:=S.I.2.1.len; have h6:=HP.I.2.2.2; omega
     have Mb:=IH.I l3 a4 XM W6 o.c.dst S.I.1 S.I.2.1.nodup S.I.2.1.ids HO.I.2.2.2.1 HM.I;have Yx:Hid (XT (ls.map (·.c)) q id o.c.dst):=XV HO.I.2.2.2.2 (by rw [← HXQ.I]; exact hq) (by rw [HSI.I]; exact XA);clear hq;go_wp2_with fail;clear b0 b2 b4 e3 e1 p2;refine Mb.mono ?_;clear Mb;rintro e W8 ⟨rfl,dw,a7,Ym,hD,hF,hG⟩;obtain ⟨q1,q2,q3⟩:=S.I.2.1.call Yx.I hF;have HN:Hid (Xh V (H+1) V.heap.size dw a7 Ym W8∧Xp (ls.map (·.c)) q ids (l ++ [id]) id (n+1) dw∧Xm (H+1) W1 a W8 a7):=⟨hD,q1.next HO.I.1 (fun h=>q3 _ (S.I.2.2.2 h)) (fun _ _=>q2),S.I.2.2.1.trans hG⟩
     clear hD hF hG q1 q2 q3 HM Yx;go_wp2;go_roundw
     case rel=>exact ⟨n+1,dw,a7,Ym,by omega,by go_num,HN.I.1,HN.I.2⟩
     case measure=>simp [Go.RowKit.intOf]; omega
    ·have e1:(o.c.dst == id)=false:=by simp [hd]
     obtain ⟨b0,b2,b4⟩:=XK HX.I.1;replace S:Hid (Xh V (H+1) V.heap.size l2 a3 UY W5∧Xp (ls.map (·.c)) q ids (l ++ [id]) id n l2∧Xm (H+1) W1 a W5 a3∧(o.c.dst=id→o.c.src∈l2)):=⟨S.I.1,S.I.2.1,S.I.2.2,fun h=>absurd h hd⟩
     replace HX:Hid (W5.heap[X]? =some (.cells (fz o) 205 (0,0))):=HX.I.1;clear hd HXB;go_upto_region 7 with fail;clear b0 b2 b4 e1;obtain ⟨b0,b2,b4⟩:=XK HX.I;obtain ⟨-,e3,-,-,hpt⟩:=HE.I.kept S.I.1.kept;obtain ⟨x,hx,hxq⟩:=hpt o HO.I.2.1;have p2:=(gg hx).2;have HXQ:=aA hxq;clear hpt hx hxq;by_cases hs:o.c.src=id
     case neg=>
      have HN:Hid (Xp (ls.map (·.c)) q ids (l ++ [id]) id (n+1) l2):=S.I.2.1.next HO.I.1 S.I.2.2.2 (fun _ h=>absurd h hs);have e1:(o.c.src == id)=false:=by simp [hs]
      clear hs;go_wp2;go_roundw
      case rel=>exact ⟨n+1,l2,a3,UY,by omega,by go_num,S.I.1,HN.I,S.I.2.2.1⟩
      case measure=>simp [Go.RowKit.intOf]; omega
     have e1:(o.c.src == id)=true:=by simp [hs]
     have HSI:=aA hs;clear hs;cases hq:x.Mf
     ·have HN:Hid (Xp (ls.map (·.c)) q ids (l ++ [id]) id (n+1) l2):=S.I.2.1.next HO.I.1 S.I.2.2.2 (fun h=>by rw [← HXQ.I,hq] at h; cases h)
      rw [hq] at p2;clear hq;go_wp2;go_roundw
      case rel=>exact ⟨n+1,l2,a3,UY,by omega,by go_num,S.I.1,HN.I,S.I.2.2.1⟩
      case measure=>simp [Go.RowKit.intOf]; omega
     rw [hq] at p2;have HM:Hid (ids.length+1 - l2.length≤m):=by show _≤m; have h5:=S.I.2.1.len; have h6:=HP.I.2.2.2; omega
     have Mb:=IH.I l2 a3 UY W5 o.c.dst S.I.1 S.I.2.1.nodup S.I.2.1.ids HO.I.2.2.2.1 HM.I;have Yx:Hid (XT (ls.map (·.c)) q id o.c.dst):=XV HO.I.2.2.2.2 (by rw [← HXQ.I]; exact hq) (by rw [HSI.I]; exact XA);clear hq;go_wp2_with fail;clear b0 b2 b4 e3 e1 p2;refine Mb.mono ?_;clear Mb;rintro e W8 ⟨rfl,dw,a7,Ym,hD,hF,hG⟩;obtain ⟨q1,q2,q3⟩:=S.I.2.1.call Yx.I hF;have HN:Hid (Xh V (H+1) V.heap.size dw a7 Ym W8∧Xp (ls.map (·.c)) q ids (l ++ [id]) id (n+1) dw∧Xm (H+1) W1 a W8 a7):=⟨hD,q1.next HO.I.1 (fun h=>q3 _ (S.I.2.2.2 h)) (fun _ _=>q2),S.I.2.2.1.trans hG⟩
     clear hD hF hG q1 q2 q3 HM Yx;go_wp2;go_roundw
     case rel=>exact ⟨n+1,dw,a7,Ym,by omega,by go_num,HN.I.1,HN.I.2⟩
     case measure=>simp [Go.RowKit.intOf]; omega
   ·have i1: ¬ (n:Int) < (ls.length:Int):=by omega
    have HN:Hid (Found (ls.map (·.c)) q ids l id l2):=S.I.2.1.end (by simp; omega);go_wp2
    go_end0
    exact ⟨rfl,l2,a3,UY,S.I.1,HN.I,S.I.2.2⟩
theorem XP (a b:Option Addr) (l:List Int) (ca cb:Nat) (w:World) (hl:l.length≤1048576) (ha:Row w a (Xn l)) (hb:Row w b (Xn l)):
  Calls J3 24 #[.slice a l.length ca,.slice b l.length cb] w fun e w'=>e= .returned (.bool true)∧Below w.heap.size w w':=by
 have H:=aA (And.intro ha hb);clear ha hb;have e0:((l.length:Int) != (l.length:Int))=false:=by simp
 go_enter Tryz.func24,Tryz.ntmps24
 go_wp2_with fail;clear e0
 go_loopw [5] (fun i wr=> ∃ k:Nat,k≤l.length∧i= .int .i64 k∧Hid (Below w.heap.size w wr)) (fun i _=>l.length - (Go.RowKit.intOf i).toNat)
 case atStart=>exact ⟨0,Ky _,rfl,Kp _ _⟩
 case round=>
  obtain ⟨k,hk,rfl,S⟩:=hrel;by_cases hlt:k < l.length
  ·have i0:(0:Int)≤(k:Int):=by omega
   have i1:(k:Int) < (l.length:Int):=by omega
   obtain ⟨z,hz⟩: ∃ z,l[k]? =some z:=⟨_,Kz hlt⟩
   obtain ⟨g,rfl,c0⟩:=XX (H.I.1.below S.I) hz;obtain ⟨g2,rfl,c1⟩:=XX (H.I.2.below S.I) hz;have HS:Hid (wr.drew.cell? ⟨g,k,none⟩=some (.int .i64 z)∧wr.drew.cell? ⟨g2,k,none⟩=some (.int .i64 z)):=⟨c0,c1⟩
   have e1:(z != z)=false:=by simp
   clear hz c0 c1;go_upto_region 6 with fail;refine wp_region_held_drew (S:=fun W=>W.cell? ⟨g,k,none⟩=some (.int .i64 z)∧W.cell? ⟨g2,k,none⟩=some (.int .i64 z)) (by kernel_rfl) HS.I (fun _=> ?_);refine tt 0 HS.I ?_;refine tt 1 HS.I ?_;refine tt 2 HS.I ?_;refine tt 3 HS.I ?_ (hy:=fun w0 hS0=>by have q0:=hS0.1; go_simp; try with_reducible rfl);refine tt 4 HS.I ?_;refine tt 5 HS.I ?_;refine tt 6 HS.I ?_;refine tt 7 HS.I ?_ (hy:=fun w0 hS0=>by have q0:=hS0.2; go_simp; try with_reducible rfl);refine tt 8 HS.I ?_;refine wpAnyH_done (by kernel_rfl) ?_ _;go_wp2;go_roundw
   case rel=>exact ⟨k+1,by omega,by go_num,S.I.drew⟩
   case measure=>simp [Go.RowKit.intOf]; omega
  ·have i1: ¬ (k:Int) < (l.length:Int):=by omega
   go_wp2;go_ret;exact ⟨rfl,S.I⟩
end
section
open Go.RowKit
attribute [local go_sem ↓] Kc Kd

end
section
open Go.RowKit Go.Maps Go.Sort
attribute [local go_sem ↓] Kc Kd
def Yc (k:kd) (part:Int) (W0:World) (e:Ending) (W:World):Prop:= ∃ (l:List Int) (a:Option Addr) (cap:Nat),e= .returned (.slice a l.length cap)∧W.ownsRow W0.heap.size 2 1 (.slice a l.length cap) l.length (Xn l)∧XO k.eC (zo k.parts) part l∧Below W0.heap.size W0 W
theorem X7 {l:List Int} (h:l.Nodup):(l.mergeSort (fun x y=>decide (x≤y))).Pairwise (· < ·):=by
 have h1:=List.pairwise_mergeSort (le:=fun x y:Int=>decide (x≤y)) (fun a b c h1 h2=>by simp at *; omega) (fun a b=>by simp; omega) l;have h2:(l.mergeSort (fun x y=>decide (x≤y))).Nodup:=(List.mergeSort_perm l _).symm.nodup h;exact (List.pairwise_and_iff.2 ⟨h1,h2⟩).imp (fun {a b} h=>by have h3:=h.1; have h4:=h.2; simp only [decide_eq_true_eq] at h3; omega)
theorem port_s {w:World} {l:List (aZ × Nat)} {ps:List aE} {o:gi} (hp: ∀ p∈l,∃ base,cJ w base p.2 p.1) (hl:l.map (·.1.pure)=ps) (h:Joins l o): ∃ x:aM,w.heap[o.s]? =some (.cells (cW x) 85 (0,0))∧x.Mf=zo ps o.c:=by
 rcases D3 hp hl o.c.src o.c.ga with ⟨h1,-⟩ | ⟨g,x,h1,h2,hx⟩
 ·rw [h.1] at h1; cases h1
 have e:=h.1.symm.trans h1;simp only [LF] at e;rw [← e] at hx;exact ⟨x,hx,(X9 h2).symm⟩
theorem Yp {k:kd} {w1 W U:World} {K b:Nat} {now:Int} {tab:Array Value} {l:List (aZ × Nat)} {ls:List gi} {a:Option Addr} {cap:Nat} {fv:Value} (hU:U=((W.alloc (.cells #[.pointer (some ⟨K,0,none⟩)] 89)).alloc (.cells #[.slice none 0 0] 57)).alloc (.cells #[fv] 126)) (hfv:fv= .func (.func 127) #[] #[.pointer (some ⟨W.heap.size+1,0,none⟩),.pointer (some ⟨W.heap.size,0,none⟩),.pointer (some ⟨W.heap.size+2,0,none⟩)])
  (hk:eP k=true) (Yy:VK w1 K b l) (hl:l.map (·.1.pure)=k.parts) (hc:ls.map (·.c)=k.eC) (hj: ∀ o∈ls,Joins l o) (hL:T1 w1 K b now tab a cap ls W):
  Env U K W.heap.size a cap ls (zo k.parts) (k.parts.map (·.id))∧U.heap[W.heap.size+1]? =some (.cells #[.slice none 0 0] 57 (0,0))∧Below W.heap.size W U:=by
 have hb:Below W.heap.size W U:=by rw [hU]; exact (((Kp _ W).alloc (Ki _) _).alloc (by simp) _).alloc (by simp; omega) _
 have g2:U.heap[W.heap.size+1+1]? =some (.cells #[fv] 126 (0,0)):=by rw [hU]; exact tE _ _ _ _
 have g1:U.heap[W.heap.size+1]? =some (.cells #[.slice none 0 0] 57 (0,0)):=by rw [hU]; exact (PU (by simp)).trans (heap_alloc2_new _ _ _)
 have g0:U.heap[W.heap.size]? =some (.cells #[.pointer (some ⟨K,0,none⟩)] 89 (0,0)):=by rw [hU]; exact (PU (by simp; omega)).trans ((PU (by simp)).trans (Kj _ _))
 have hsz:U.heap.size=W.heap.size+3:=by rw [hU]; simp
 have hPW:=Yy.kept hL.kept;obtain ⟨ki1,ki2,ki3,ki4⟩:=Xo hk;refine ⟨⟨g0,?_,?_,hL.TN.lt,(nP hL.own).below hb,fun g hg=>(cf hL.own hg).2,fun o ho=> ?_,fun o ho=> ?_,⟨?_,by simpa using ki2⟩,hsz⟩,g1,hb⟩
 ·rw [← hfv]
  exact g2
 ·exact ((J1 (w:=W) (a:=⟨K,64,none⟩) (hb.block K hL.TN.lt))).trans (hL.TN.cell (i:=64) (by omega))
 ·obtain ⟨x,hx,hq⟩:=port_s (fun p hp=>(hPW.part p hp).imp fun _ h=>h.2) hl (hj o ho)
  have hlt:=(J2.1 hx).1;exact ⟨x,(hb.block _ hlt).trans hx,hq,hlt⟩
 ·exact XQ (ki4 o.c (by rw [← hc]; exact Lr.2 ⟨o,ho,rfl⟩))
 ·have:=congrArg List.length hc; simp at this; omega
theorem X5 (k:kd) (part:Int) (w1 W:World) (K b:Nat) (now:Int) (tab:Array Value) (l:List (aZ × Nat)) (ls:List gi) (a:Option Addr) (cap:Nat) (hk:eP k=true) (hpt:part∈k.parts.map (·.id)) (Yy:VK w1 K b l) (hl:l.map (·.1.pure)=k.parts) (hc:ls.map (·.c)=k.eC) (hj: ∀ o∈ls,Joins l o) (hL:T1 w1 K b now tab a cap ls W):
  Calls J3 77 #[.pointer (some ⟨K,0,none⟩),.int .i64 part] W fun e W'=>Yc k part W e W':=by
 have HA:=aA (And.intro hk (And.intro hpt (And.intro Yy (And.intro hl (And.intro hc (And.intro hj hL))))));clear hk hpt Yy hl hc hj hL
 go_enter Tryz.func77,Tryz.ntmps77
 have g3:(((W.alloc (.cells #[.pointer (some ⟨K,0,none⟩)] 89)).alloc (.cells #[.slice none 0 0] 57)).alloc (.cells #[.nilFunc] 126)).heap[W.heap.size+1+1]? =some (.cells #[.nilFunc] 126 (0,0)):=tE _ _ _ _;have c3:(((W.alloc (.cells #[.pointer (some ⟨K,0,none⟩)] 89)).alloc (.cells #[.slice none 0 0] 57)).alloc (.cells #[.nilFunc] 126)).cell? ⟨W.heap.size+1+1,0,none⟩=some .nilFunc:=by unfold World.cell?; rw [g3]; rfl
 have f3:(((W.alloc (.cells #[.pointer (some ⟨K,0,none⟩)] 89)).alloc (.cells #[.slice none 0 0] 57)).alloc (.cells #[.nilFunc] 126)).frozen? ⟨W.heap.size+1+1,0,none⟩=false:=by unfold World.frozen?; rw [g3]; rfl
 have HV:Hid (Env (((W.alloc (.cells #[.pointer (some ⟨K,0,none⟩)] 89)).alloc (.cells #[.slice none 0 0] 57)).alloc (.cells #[.func (.func 127) #[] #[.pointer (some ⟨W.heap.size+1,0,none⟩),.pointer (some ⟨W.heap.size,0,none⟩),.pointer (some ⟨W.heap.size+1+1,0,none⟩)]] 126)) K W.heap.size a cap ls (zo k.parts) (k.parts.map (·.id))∧(((W.alloc (.cells #[.pointer (some ⟨K,0,none⟩)] 89)).alloc (.cells #[.slice none 0 0] 57)).alloc (.cells #[.func (.func 127) #[] #[.pointer (some ⟨W.heap.size+1,0,none⟩),.pointer (some ⟨W.heap.size,0,none⟩),.pointer (some ⟨W.heap.size+1+1,0,none⟩)]] 126)).heap[W.heap.size+1]? =some (.cells #[.slice none 0 0] 57 (0,0))∧Below W.heap.size W (((W.alloc (.cells #[.pointer (some ⟨K,0,none⟩)] 89)).alloc (.cells #[.slice none 0 0] 57)).alloc (.cells #[.func (.func 127) #[] #[.pointer (some ⟨W.heap.size+1,0,none⟩),.pointer (some ⟨W.heap.size,0,none⟩),.pointer (some ⟨W.heap.size+1+1,0,none⟩)]] 126))):=Yp rfl rfl HA.I.1 HA.I.2.2.1 HA.I.2.2.2.1 HA.I.2.2.2.2.1 HA.I.2.2.2.2.2.1 HA.I.2.2.2.2.2.2;have hst:Sem.run J3 (store ⟨W.heap.size+1+1,0,none⟩ (.func (.func 127) #[] #[.pointer (some ⟨W.heap.size+1,0,none⟩),.pointer (some ⟨W.heap.size,0,none⟩),.pointer (some ⟨W.heap.size+1+1,0,none⟩)])) (((W.alloc (.cells #[.pointer (some ⟨K,0,none⟩)] 89)).alloc (.cells #[.slice none 0 0] 57)).alloc (.cells #[.nilFunc] 126))= .ok () ((((W.alloc (.cells #[.pointer (some ⟨K,0,none⟩)] 89)).alloc (.cells #[.slice none 0 0] 57)).alloc (.cells #[.nilFunc] 126)).setCell ⟨W.heap.size+1+1,0,none⟩ (.func (.func 127) #[] #[.pointer (some ⟨W.heap.size+1,0,none⟩),.pointer (some ⟨W.heap.size,0,none⟩),.pointer (some ⟨W.heap.size+1+1,0,none⟩)])):=by rw [run_store _ _ _ _ _ rfl,c3]; simp [f3]
 clear c3 f3 g3;go_upto_region 4 with fail;clear hst;generalize ((W.alloc (.cells #[.pointer (some ⟨K,0,none⟩)] 89)).alloc (.cells #[.slice none 0 0] 57)).alloc (.cells #[.func (.func 127) #[] #[.pointer (some ⟨W.heap.size+1,0,none⟩),.pointer (some ⟨W.heap.size,0,none⟩),.pointer (some ⟨W.heap.size+1+1,0,none⟩)]] 126)=V at *;generalize hH:W.heap.size=H at *;have HH:=aA hH;clear hH;have HD:Hid (Xh V (H+1) V.heap.size [] none 0 V):=⟨aI.refl _ _,HV.I.2.1,Ke _ _ _ _⟩
 have Mb:=Yn V K H a cap ls (zo k.parts) (k.parts.map (·.id)) HV.I.1 ((k.parts.map (·.id)).length+1) [] none 0 V part HD.I (by simp) (fun i hi=>by cases hi) HA.I.2.1 (by simp);have e3:V.cell? ⟨H+1+1,0,none⟩=some (.func (.func 127) #[] #[.pointer (some ⟨H+1,0,none⟩),.pointer (some ⟨H,0,none⟩),.pointer (some ⟨H+1+1,0,none⟩)]):=(HV.I.1.kept (aI.refl _ _)).2.1;go_wp2_with fail;clear e3;refine Mb.mono ?_;clear Mb HD;rintro e W6 ⟨rfl,l6,a6,XH,hD,hF,-⟩;obtain ⟨t6,et,ht⟩:=hF.ext;rw [List.nil_append] at et;subst et;have HF:Hid (l6.Nodup∧(∀ i,i∈l6↔XT k.eC (zo k.parts) part i)∧l6.length≤6):=by
  have hc:=HA.I.2.2.2.2.1;refine ⟨hF.nodup,Yh hF.has (fun i hi=>by rw [← hc]; exact (ht i hi).1) (fun c hcm=> ?_),?_⟩
  ·rw [← hc] at hcm
   exact ⟨fun hd=>((ht _ hd).2 c hcm).1 rfl,fun hq hs=>((ht _ hs).2 c hcm).2 hq rfl⟩
  ·have h5:=Xs hF.nodup hF.ids
   have h6:=HV.I.1.short.2;omega
 have hne:l6≠ [] :=fun e=>by have:=hF.has; rw [e] at this; cases this
 obtain ⟨Xi,cur,rfl,q1,q2,q3,q4,q5,q6⟩: ∃ Xi cur,a6=some ⟨Xi,0,none⟩∧V.heap.size≤Xi∧W6.heap[Xi]? =some (.cells cur 2 (0,0))∧l6.length≤XH∧XH≤maxLen∧cur.size=XH * 1∧cur.toList.take l6.length=Xn l6:=by
  rcases hD.own.2 with ⟨-,h5⟩ | ⟨Xi,c9,cur,e9,h1,h2,h3,h4,h5,h6⟩
  ·exact absurd (List.eq_nil_of_length_eq_zero h5) hne
  ·cases e9
   exact ⟨Xi,cur,rfl,h1,h2,h3,h4,h5,by simpa using h6⟩
 have HO:Hid (Xh V (H+1) V.heap.size l6 (some ⟨Xi,0,none⟩) XH W6∧V.heap.size≤Xi∧W6.heap[Xi]? =some (.cells cur 2 (0,0))∧l6.length≤XH∧XH≤maxLen∧cur.size=XH * 1):=⟨hD,q1,q2,q3,q4,q5⟩
 have Mb:Calls J3 129 #[.slice (some ⟨Xi,0,none⟩) l6.length XH] W6 _:=AnyM.slices_Sort_int Tryz.sortA Xi 0 XH l6 W6 (holds_of_blockI q2 q6) (J2.1 q2).1 (by have:=HF.I.2.2; omega);have c1:W6.cell? ⟨H+1,0,none⟩=some (.slice (some ⟨Xi,0,none⟩) l6.length XH):=by simp [World.cell?,hD.XS]
 clear hD hF ht hne q1 q2 q3 q4 q5 q6;go_wp2_with fail;clear c1;refine Mb.mono ?_;clear Mb;rintro e W7 ⟨rfl,n7,os7,hw7⟩;have xI:W6.grownBy W7 (some Xi):=by rw [hw7]; exact grownBy_sortedI _
 have Em:Hid (W7.ownsRow H 2 1 (.slice (some ⟨Xi,0,none⟩) l6.length XH) l6.length (Xn (l6.mergeSort fun x y=>decide (x≤y)))∧W7.heap[H+1]? =some (.cells #[.slice (some ⟨Xi,0,none⟩) l6.length XH] 57 (0,0))∧Below H W W7):=by
  have hs:=HV.I.1.size;have hg:=HO.I.2.1;refine ⟨by rw [hw7]; exact ownsRow_sortedI (by simp) (by omega) HO.I.2.2.1 HO.I.2.2.2.1 HO.I.2.2.2.2.1 HO.I.2.2.2.2.2,(xI.block _ (J2.1 HO.I.1.XS).1 (by simp; omega)).trans HO.I.1.XS,?_⟩;have h6:Below H W W6:=HV.I.2.2.trans (HO.I.1.kept.below (by omega) fun g hm=>by rw [KB.1 hm]; omega);exact h6.trans ⟨xI.os,xI.tape,xI.output,xI.size,fun g hgl=>xI.block g (by have:=HO.I.1.kept.size; omega) (by simp; omega)⟩
 have c1:W7.cell? ⟨H+1,0,none⟩=some (.slice (some ⟨Xi,0,none⟩) l6.length XH):=by simp [World.cell?,Em.I.2.1]
 clear hw7 xI;go_wp2;go_ret;refine ⟨l6.mergeSort fun x y=>decide (x≤y),some ⟨Xi,0,none⟩,XH,?_,?_,⟨fun i=> ?_,X7 HF.I.1⟩,?_⟩
 ·rw [List.length_mergeSort]; rfl
 ·rw [List.length_mergeSort,HH.I]; exact Em.I.1
 ·rw [← HF.I.2.1 i]; exact (List.mergeSort_perm l6 _).mem_iff
 ·rw [HH.I]; exact Em.I.2.2
theorem Xw (k:eA) (part:Int) (g base:Nat) (w:World) (hid:(Lit.int .i64 part).wf=true) (hs:k.pure.Small) (ho:gp w base k) (hg:k.vb=some ⟨g,0,none⟩∧g < w.heap.size):
  Calls J3 23 #[.agg k.row,.int .i64 part] w fun e w'=>XW w k.pure part e w':=by
 have S:=aA (dr.first ho.at);have hz:Below w.heap.size w (w.alloc (.cells k.row 37)):=(Kp _ _).alloc (Ki _) _;have Mb:=Pq k g (w.alloc (.cells k.row 37)) hs (ho.at.below hz) (fun p hp=>(U7 hs ho p hp).below hz) ⟨hg.1,by have:=hz.size; omega⟩;have HI:=aA hid;clear hid hs ho hg hz
 go_enter Tryz.func23,Tryz.ntmps23
 go_upto_region 1 with fail;generalize w.alloc (.cells k.row 37)=W0 at *;obtain ⟨m0,m1,m2,m3,m4⟩:=S.I.box.cells;go_wp2_with fail;clear m0 m1 m2 m3 m4;refine Mb.mono ?_;clear Mb;rintro e W1 ⟨hb1,⟨hno,rfl⟩ | ⟨fm,K,rfl,hK⟩⟩
 ·have HN:Hid (Xr k.pure part [] ∧Below w.heap.size w W1):=⟨⟨fun h=>absurd h (by rw [hno]; simp),fun _=>rfl⟩,(S.I.below hb1).low⟩
  clear hno hb1;go_wp2;go_ret;exact ⟨[],none,0,rfl,Ke _ _ _ _,HN.I.1,HN.I.2⟩
 obtain ⟨w1,b,tab,l,ls,a,cap,-,Yy,hl,hc,hj,hL,-,hlo⟩:=hK.ex;have hKM:=hL.kmap Yy;have Yw:Hid (Below w.heap.size w W1):=(S.I.below hb1).low;have hfind:(l.find? (fun p=>p.1.q.id == part)).isSome=decide (part∈k.pure.parts.map (·.id)):=by
  rw [← hl,List.map_map];by_cases hm:part∈l.map ((fun p:aE=>p.id) ∘ fun x=>x.1.pure)
  ·rw [decide_eq_true hm]
   obtain ⟨x,hx,e⟩:=Lr.1 hm;rw [List.find?_isSome];exact ⟨x,hx,by have e2:x.1.q.id=part:=e; simpa using e2⟩
  ·rw [decide_eq_false hm]
   cases hf:l.find? (fun p=>p.1.q.id == part) with
   | none=>rfl
   | some x=>exact absurd (Lr.2 ⟨x,List.mem_of_find?_eq_some hf,by have e2:x.1.q.id=part:=(by simpa using List.find?_some hf); exact e2⟩) hm
 have Mb:=fun hpt=>X5 k.pure part w1 W1 K b k.pure.now tab l ls a cap fm hpt Yy hl hc hj hL
 have HF:=aA hfind;have HC:=aA Mb;have HY:=aA fm;have c63:=hKM.cell;have hlk:=hKM.map.look Tryz.underlying104 (TQ W1) HI.I true;rw [Tf] at hlk;simp only [if_true] at hlk;clear fm hK Yy hl hL hlo hKM hb1 HI hc hj hfind Mb;cases hf:l.find? (fun p=>p.1.q.id == part) with
 | none=>
  have HN:Hid (Xr k.pure part []):=⟨fun _ hm=>(by have h5:=HF.I; rw [hf,decide_eq_true hm] at h5; cases h5),fun _=>rfl⟩
  rw [hf] at hlk;simp only [Option.map_none,Option.isSome_none,qz] at hlk;clear hf HC HF HY;go_wp2;go_ret;exact ⟨[],none,0,rfl,Ke _ _ _ _,HN.I,Yw.I⟩
 | some p=>
  have HM:Hid (part∈k.pure.parts.map (·.id)):=by have h5:=HF.I; rw [hf] at h5; show part∈_; exact of_decide_eq_true h5.symm
  rw [hf] at hlk;simp only [Option.map_some,Option.isSome_some,qz,dt] at hlk;have Mb:=HC.I HM.I;clear hf HC HF;go_wp2_with fail;clear c63 hlk;refine Mb.mono ?_;clear Mb;rintro e W2 ⟨l2,a2,Ta,rfl,ho,hF,hb2⟩;have HN:Hid (W2.ownsRow w.heap.size 2 1 (.slice a2 l2.length Ta) l2.length (Xn l2)∧Xr k.pure part l2∧Below w.heap.size w W2):=⟨cq ho Yw.I.size,⟨fun _ _=>hF,fun h=>by
   rcases h with h | h
   ·rw [HY.I] at h; cases h
   ·exact absurd HM.I h⟩,Yw.I.trans (hb2.mono Yw.I.size)⟩
  clear ho hF hb2;go_wp2;go_ret;exact ⟨l2,a2,Ta,rfl,HN.I⟩
end
section
open Go.RowKit
attribute [local go_sem ↓] Kc Kd
theorem pr {α:Type} {N:gd α} {f:Int→α→α} {c:α→Nat} (h: ∀ k x,N.bt (f k x)=N.bt x): ∀ (k:Int) (l:List α),(aJ f c k l).filterMap N.bt=l.filterMap N.bt
 | _,[] =>rfl
 | k,x :: r=>by simp only [aJ,List.filterMap_cons,h,pr h (k+c x) r]
theorem ap.As {w w':World} {base:Nat} {q:af} {l:List ao} (h:ap w base q) (ho:w'.ownsRow base 148 12 (.slice q.aN q.L8.length q.aW) q.L8.length (bg.flat l)) (hl:l.length=q.L8.length) (hm: ∀ y∈l,aR.cO w' base y) (hki:l.filterMap aR.bt=q.L8.filterMap aR.bt) (hk:aI w w' (blk q.aN ++ q.L8.filterMap aR.bt)):
  ap w' base ({ q with L8:=l } :af)∧({ q with L8:=l } :af).Mc=q.Mc:=by
 have hbs:q.Mc= [] ++ ((blk q.aN ++ q.L8.filterMap aR.bt) ++ (blk q.bc ++ (blk q.ay ++ (blk q.ax ++ (blk q.am ++ (q.ae.filterMap aC.bt ++ (blk q.aK ++ (q.ai.filterMap aU.bt)))))))):=by simp [af.Mc,Lm]
 have rN:({ q with L8:=l } :af).Mc=q.Mc:=by simp only [af.Mc,hki]
 have hnd:=h.nodup;rw [hbs] at hnd;have nc: ∀ g,(g∈ [] ∨g∈(blk q.bc ++ (blk q.ay ++ (blk q.ax ++ (blk q.am ++ (q.ae.filterMap aC.bt ++ (blk q.aK ++ (q.ai.filterMap aU.bt))))))))→g∉(blk q.aN ++ q.L8.filterMap aR.bt):=fun g bR hA=>by
  obtain ⟨-,h2,h3⟩:=Kf.1 hnd;obtain ⟨-,-,h4⟩:=Kf.1 h2;rcases bR with bR | bR
  ·exact h3 g bR g (Lz _ hA) rfl
  ·exact h4 g hA g bR rfl
 have hs: ∀ g,(g∈ [] ∨g∈(blk q.bc ++ (blk q.ay ++ (blk q.ax ++ (blk q.am ++ (q.ae.filterMap aC.bt ++ (blk q.aK ++ (q.ai.filterMap aU.bt))))))))→w'.heap[g]? =w.heap[g]? :=fun g bR=>hk.same g (h.lt g (by
  rw [hbs];rcases bR with bR | bR
  ·exact Lz _ bR
  ·exact Ly _ (Ly _ bR))).2 (nc g bR)
 refine ⟨⟨(by rw [hl]; exact ho),aL h.aj fun g bR=>hs g (.inr (by simp [bR])),aL h.L9 fun g bR=>hs g (.inr (by simp [bR])),aL h.ag fun g bR=>hs g (.inr (by simp [bR])),aL h.ae fun g bR=>hs g (.inr (by simp [bR])),aL h.ai fun g bR=>hs g (.inr (by simp [bR])),hm,fun y hy=>(h.eE y hy).same fun g hk=>hs g (.inr (by simp only [Kg,Lq]; simp [dd hy hk])),fun y hy=>(h.eR y hy).same fun g hk=>hs g (.inr (by simp only [Kg,Lq]; simp [dd hy hk])),?_⟩,rN⟩;rw [rN];exact h.nodup
theorem ap.DT {w w':World} {base:Nat} {q:af} {l:List bD} (h:ap w base q) (ho:w'.ownsRow base 184 3 (.slice q.bc q.aj.length q.bF) q.aj.length (dm.flat l)) (hl:l.length=q.aj.length) (hk:aI w w' (blk q.bc)):
  ap w' base ({ q with aj:=l } :af)∧({ q with aj:=l } :af).Mc=q.Mc:=by
 have hbs:q.Mc=(blk q.aN ++ q.L8.filterMap aR.bt) ++ ((blk q.bc) ++ (blk q.ay ++ (blk q.ax ++ (blk q.am ++ (q.ae.filterMap aC.bt ++ (blk q.aK ++ (q.ai.filterMap aU.bt))))))):=by simp [af.Mc,Lm]
 have rN:({ q with aj:=l } :af).Mc=q.Mc:=by rfl
 have hnd:=h.nodup;rw [hbs] at hnd;have nc: ∀ g,(g∈(blk q.aN ++ q.L8.filterMap aR.bt)∨g∈(blk q.ay ++ (blk q.ax ++ (blk q.am ++ (q.ae.filterMap aC.bt ++ (blk q.aK ++ (q.ai.filterMap aU.bt)))))))→g∉(blk q.bc):=fun g bR hA=>by
  obtain ⟨-,h2,h3⟩:=Kf.1 hnd;obtain ⟨-,-,h4⟩:=Kf.1 h2;rcases bR with bR | bR
  ·exact h3 g bR g (Lz _ hA) rfl
  ·exact h4 g hA g bR rfl
 have hs: ∀ g,(g∈(blk q.aN ++ q.L8.filterMap aR.bt)∨g∈(blk q.ay ++ (blk q.ax ++ (blk q.am ++ (q.ae.filterMap aC.bt ++ (blk q.aK ++ (q.ai.filterMap aU.bt)))))))→w'.heap[g]? =w.heap[g]? :=fun g bR=>hk.same g (h.lt g (by
  rw [hbs];rcases bR with bR | bR
  ·exact Lz _ bR
  ·exact Ly _ (Ly _ bR))).2 (nc g bR)
 refine ⟨⟨aL h.L8 fun g bR=>hs g (.inl (by simp [bR])),(by rw [hl]; exact ho),aL h.L9 fun g bR=>hs g (.inr (by simp [bR])),aL h.ag fun g bR=>hs g (.inr (by simp [bR])),aL h.ae fun g bR=>hs g (.inr (by simp [bR])),aL h.ai fun g bR=>hs g (.inr (by simp [bR])),fun y hy=>(h.eI y hy).same fun g hk=>hs g (.inl (by simp only [Kg,Lq]; simp [dd hy hk])),fun y hy=>(h.eE y hy).same fun g hk=>hs g (.inr (by simp only [Kg,Lq]; simp [dd hy hk])),fun y hy=>(h.eR y hy).same fun g hk=>hs g (.inr (by simp only [Kg,Lq]; simp [dd hy hk])),?_⟩,rN⟩;rw [rN];exact h.nodup
theorem ap.xA {w w':World} {base:Nat} {q:af} {l:List aB} (h:ap w base q) (ho:w'.ownsRow base 187 2 (.slice q.ay q.L9.length q.aO) q.L9.length (bJ.flat l)) (hl:l.length=q.L9.length) (hk:aI w w' (blk q.ay)):
  ap w' base ({ q with L9:=l } :af)∧({ q with L9:=l } :af).Mc=q.Mc:=by
 have hbs:q.Mc=(blk q.aN ++ q.L8.filterMap aR.bt ++ blk q.bc) ++ ((blk q.ay) ++ (blk q.ax ++ (blk q.am ++ (q.ae.filterMap aC.bt ++ (blk q.aK ++ (q.ai.filterMap aU.bt)))))):=by simp [af.Mc,Lm]
 have rN:({ q with L9:=l } :af).Mc=q.Mc:=by rfl
 have hnd:=h.nodup;rw [hbs] at hnd;have nc: ∀ g,(g∈(blk q.aN ++ q.L8.filterMap aR.bt ++ blk q.bc)∨g∈(blk q.ax ++ (blk q.am ++ (q.ae.filterMap aC.bt ++ (blk q.aK ++ (q.ai.filterMap aU.bt))))))→g∉(blk q.ay):=fun g bR hA=>by
  obtain ⟨-,h2,h3⟩:=Kf.1 hnd;obtain ⟨-,-,h4⟩:=Kf.1 h2;rcases bR with bR | bR
  ·exact h3 g bR g (Lz _ hA) rfl
  ·exact h4 g hA g bR rfl
 have hs: ∀ g,(g∈(blk q.aN ++ q.L8.filterMap aR.bt ++ blk q.bc)∨g∈(blk q.ax ++ (blk q.am ++ (q.ae.filterMap aC.bt ++ (blk q.aK ++ (q.ai.filterMap aU.bt))))))→w'.heap[g]? =w.heap[g]? :=fun g bR=>hk.same g (h.lt g (by
  rw [hbs];rcases bR with bR | bR
  ·exact Lz _ bR
  ·exact Ly _ (Ly _ bR))).2 (nc g bR)
 refine ⟨⟨aL h.L8 fun g bR=>hs g (.inl (by simp [bR])),aL h.aj fun g bR=>hs g (.inl (by simp [bR])),(by rw [hl]; exact ho),aL h.ag fun g bR=>hs g (.inr (by simp [bR])),aL h.ae fun g bR=>hs g (.inr (by simp [bR])),aL h.ai fun g bR=>hs g (.inr (by simp [bR])),fun y hy=>(h.eI y hy).same fun g hk=>hs g (.inl (by simp only [Kg,Lq]; simp [dd hy hk])),fun y hy=>(h.eE y hy).same fun g hk=>hs g (.inr (by simp only [Kg,Lq]; simp [dd hy hk])),fun y hy=>(h.eR y hy).same fun g hk=>hs g (.inr (by simp only [Kg,Lq]; simp [dd hy hk])),?_⟩,rN⟩;rw [rN];exact h.nodup
theorem ap.xM {w w':World} {base:Nat} {q:af} {l:List az} (h:ap w base q) (ho:w'.ownsRow base 190 3 (.slice q.ax q.ag.length q.aP) q.ag.length (bG.flat l)) (hl:l.length=q.ag.length) (hk:aI w w' (blk q.ax)):
  ap w' base ({ q with ag:=l } :af)∧({ q with ag:=l } :af).Mc=q.Mc:=by
 have hbs:q.Mc=(blk q.aN ++ q.L8.filterMap aR.bt ++ blk q.bc ++ blk q.ay) ++ ((blk q.ax) ++ (blk q.am ++ (q.ae.filterMap aC.bt ++ (blk q.aK ++ (q.ai.filterMap aU.bt))))):=by simp [af.Mc,Lm]
 have rN:({ q with ag:=l } :af).Mc=q.Mc:=by rfl
 have hnd:=h.nodup;rw [hbs] at hnd;have nc: ∀ g,(g∈(blk q.aN ++ q.L8.filterMap aR.bt ++ blk q.bc ++ blk q.ay)∨g∈(blk q.am ++ (q.ae.filterMap aC.bt ++ (blk q.aK ++ (q.ai.filterMap aU.bt)))))→g∉(blk q.ax):=fun g bR hA=>by
  obtain ⟨-,h2,h3⟩:=Kf.1 hnd;obtain ⟨-,-,h4⟩:=Kf.1 h2;rcases bR with bR | bR
  ·exact h3 g bR g (Lz _ hA) rfl
  ·exact h4 g hA g bR rfl
 have hs: ∀ g,(g∈(blk q.aN ++ q.L8.filterMap aR.bt ++ blk q.bc ++ blk q.ay)∨g∈(blk q.am ++ (q.ae.filterMap aC.bt ++ (blk q.aK ++ (q.ai.filterMap aU.bt)))))→w'.heap[g]? =w.heap[g]? :=fun g bR=>hk.same g (h.lt g (by
  rw [hbs];rcases bR with bR | bR
  ·exact Lz _ bR
  ·exact Ly _ (Ly _ bR))).2 (nc g bR)
 refine ⟨⟨aL h.L8 fun g bR=>hs g (.inl (by simp [bR])),aL h.aj fun g bR=>hs g (.inl (by simp [bR])),aL h.L9 fun g bR=>hs g (.inl (by simp [bR])),(by rw [hl]; exact ho),aL h.ae fun g bR=>hs g (.inr (by simp [bR])),aL h.ai fun g bR=>hs g (.inr (by simp [bR])),fun y hy=>(h.eI y hy).same fun g hk=>hs g (.inl (by simp only [Kg,Lq]; simp [dd hy hk])),fun y hy=>(h.eE y hy).same fun g hk=>hs g (.inr (by simp only [Kg,Lq]; simp [dd hy hk])),fun y hy=>(h.eR y hy).same fun g hk=>hs g (.inr (by simp only [Kg,Lq]; simp [dd hy hk])),?_⟩,rN⟩;rw [rN];exact h.nodup
theorem ap.CJ {w w':World} {base:Nat} {q:af} {l:List au} (h:ap w base q) (ho:w'.ownsRow base 160 3 (.slice q.am q.ae.length q.aG) q.ae.length (bm.flat l)) (hl:l.length=q.ae.length) (hm: ∀ y∈l,aC.cO w' base y) (hki:l.filterMap aC.bt=q.ae.filterMap aC.bt) (hk:aI w w' (blk q.am ++ q.ae.filterMap aC.bt)):
  ap w' base ({ q with ae:=l } :af)∧({ q with ae:=l } :af).Mc=q.Mc:=by
 have hbs:q.Mc=(blk q.aN ++ q.L8.filterMap aR.bt ++ blk q.bc ++ blk q.ay ++ blk q.ax) ++ ((blk q.am ++ q.ae.filterMap aC.bt) ++ (blk q.aK ++ (q.ai.filterMap aU.bt))):=by simp [af.Mc,Lm]
 have rN:({ q with ae:=l } :af).Mc=q.Mc:=by simp only [af.Mc,hki]
 have hnd:=h.nodup;rw [hbs] at hnd;have nc: ∀ g,(g∈(blk q.aN ++ q.L8.filterMap aR.bt ++ blk q.bc ++ blk q.ay ++ blk q.ax)∨g∈(blk q.aK ++ (q.ai.filterMap aU.bt)))→g∉(blk q.am ++ q.ae.filterMap aC.bt):=fun g bR hA=>by
  obtain ⟨-,h2,h3⟩:=Kf.1 hnd;obtain ⟨-,-,h4⟩:=Kf.1 h2;rcases bR with bR | bR
  ·exact h3 g bR g (Lz _ hA) rfl
  ·exact h4 g hA g bR rfl
 have hs: ∀ g,(g∈(blk q.aN ++ q.L8.filterMap aR.bt ++ blk q.bc ++ blk q.ay ++ blk q.ax)∨g∈(blk q.aK ++ (q.ai.filterMap aU.bt)))→w'.heap[g]? =w.heap[g]? :=fun g bR=>hk.same g (h.lt g (by
  rw [hbs];rcases bR with bR | bR
  ·exact Lz _ bR
  ·exact Ly _ (Ly _ bR))).2 (nc g bR)
 refine ⟨⟨aL h.L8 fun g bR=>hs g (.inl (by simp [bR])),aL h.aj fun g bR=>hs g (.inl (by simp [bR])),aL h.L9 fun g bR=>hs g (.inl (by simp [bR])),aL h.ag fun g bR=>hs g (.inl (by simp [bR])),(by rw [hl]; exact ho),aL h.ai fun g bR=>hs g (.inr (by simp [bR])),fun y hy=>(h.eI y hy).same fun g hk=>hs g (.inl (by simp only [Kg,Lq]; simp [dd hy hk])),hm,fun y hy=>(h.eR y hy).same fun g hk=>hs g (.inr (by simp only [Kg,Lq]; simp [dd hy hk])),?_⟩,rN⟩;rw [rN];exact h.nodup
theorem ap.Gu {w w':World} {base:Nat} {q:af} {l:List aM} (h:ap w base q) (ho:w'.ownsRow base 85 5 (.slice q.aK q.ai.length q.aV) q.ai.length (bX.flat l)) (hl:l.length=q.ai.length) (hm: ∀ y∈l,aU.cO w' base y) (hki:l.filterMap aU.bt=q.ai.filterMap aU.bt) (hk:aI w w' (blk q.aK ++ q.ai.filterMap aU.bt)):
  ap w' base ({ q with ai:=l } :af)∧({ q with ai:=l } :af).Mc=q.Mc:=by
 have hbs:q.Mc=(blk q.aN ++ q.L8.filterMap aR.bt ++ blk q.bc ++ blk q.ay ++ blk q.ax ++ blk q.am ++ q.ae.filterMap aC.bt) ++ ((blk q.aK ++ q.ai.filterMap aU.bt) ++ []):=by simp [af.Mc,Lm]
 have rN:({ q with ai:=l } :af).Mc=q.Mc:=by simp only [af.Mc,hki]
 have hnd:=h.nodup;rw [hbs] at hnd;have nc: ∀ g,(g∈(blk q.aN ++ q.L8.filterMap aR.bt ++ blk q.bc ++ blk q.ay ++ blk q.ax ++ blk q.am ++ q.ae.filterMap aC.bt)∨g∈ [])→g∉(blk q.aK ++ q.ai.filterMap aU.bt):=fun g bR hA=>by
  obtain ⟨-,h2,h3⟩:=Kf.1 hnd;obtain ⟨-,-,h4⟩:=Kf.1 h2;rcases bR with bR | bR
  ·exact h3 g bR g (Lz _ hA) rfl
  ·exact h4 g hA g bR rfl
 have hs: ∀ g,(g∈(blk q.aN ++ q.L8.filterMap aR.bt ++ blk q.bc ++ blk q.ay ++ blk q.ax ++ blk q.am ++ q.ae.filterMap aC.bt)∨g∈ [])→w'.heap[g]? =w.heap[g]? :=fun g bR=>hk.same g (h.lt g (by
  rw [hbs];rcases bR with bR | bR
  ·exact Lz _ bR
  ·exact Ly _ (Ly _ bR))).2 (nc g bR)
 refine ⟨⟨aL h.L8 fun g bR=>hs g (.inl (by simp [bR])),aL h.aj fun g bR=>hs g (.inl (by simp [bR])),aL h.L9 fun g bR=>hs g (.inl (by simp [bR])),aL h.ag fun g bR=>hs g (.inl (by simp [bR])),aL h.ae fun g bR=>hs g (.inl (by simp [bR])),(by rw [hl]; exact ho),fun y hy=>(h.eI y hy).same fun g hk=>hs g (.inl (by simp only [Kg,Lq]; simp [dd hy hk])),fun y hy=>(h.eE y hy).same fun g hk=>hs g (.inl (by simp only [Kg,Lq]; simp [dd hy hk])),hm,?_⟩,rN⟩;rw [rN];exact h.nodup
def fb (p:af):Nat:=aF bj p.L8+aF (fun _=>3) p.aj+aF (fun _=>2) p.L9+aF (fun _=>3) p.ag+aF bN p.ae+aF eo p.ai
def nF (k:Int) (p:af):af:= { p with L8:=aJ cw bj (k) p.L8,aj:=aJ hJ (fun _=>3) (k+(aF bj p.L8:Nat)) p.aj,L9:=aJ eM (fun _=>2) (k+(aF bj p.L8:Nat)+(aF (fun _=>3) p.aj:Nat)) p.L9,ag:=aJ dZ (fun _=>3) (k+(aF bj p.L8:Nat)+(aF (fun _=>3) p.aj:Nat)+(aF (fun _=>2) p.L9:Nat)) p.ag,ae:=aJ dy bN (k+(aF bj p.L8:Nat)+(aF (fun _=>3) p.aj:Nat)+(aF (fun _=>2) p.L9:Nat)+(aF (fun _=>3) p.ag:Nat)) p.ae,ai:=aJ fU eo (k+(aF bj p.L8:Nat)+(aF (fun _=>3) p.aj:Nat)+(aF (fun _=>2) p.L9:Nat)+(aF (fun _=>3) p.ag:Nat)+(aF bN p.ae:Nat)) p.ai }
structure af.WN (p:af):Prop where
 dl:p.L8.length≤1048576
 fx:p.aj.length≤1048576
 cD:p.L9.length≤1048576
 cC:p.ag.length≤1048576
 cb:p.ae.length≤1048576
 dH:p.ai.length≤1048576
 L8: ∀ x∈p.L8,x.prog.length≤1048576
 ae: ∀ x∈p.ae,x.Ma.length≤1048576
 ai: ∀ x∈p.ai,x.Ma.length≤1048576
end
end Go.Proofs.YteidkehoekbcaaaGreat
