/- What the proof leans on, part 15. -/
import Derived.Test.YteidkehoekbcaaaGreatOwnC14
set_option maxRecDepth 100000
set_option maxHeartbeats 8000000
open Array renaming getElem?_eq_some_iff->J2
open Bool renaming and_eq_true->J7
open Function renaming comp_def->Ls
open Go renaming heap_alloc_new->Kj,setRow_heap->KU,setRow_other->KH,wpAnyH_done->K3,wpAnyH_ready->KW,wp_region_held_drew->Kr
open Go.AllReadyH renaming cons->KX,nil->KY
open Go.Proofs.Tryz renaming prog->J3
open Go.RowKit.Below renaming refl->Kp
open Go.World renaming cell?_of_block->J1
open List renaming getElem?_eq_getElem->Kz,getElem_cons_succ->K1,getElem_cons_zero->K0,getElem_toArray->KZ,length_map->KG,map_map->Lv,mem_append->Kg,mem_append_right->Ly,nodup_append->Kf,take_length->LQ
open Nat renaming le_refl->Ki,zero_le->Ky

namespace Go.Proofs.YteidkehoekbcaaaGreat
section
open Go.RowKit
section
variable {α:Type} {num:α→Int} {ok:α→Bool}
end
end
section
open Go.RowKit Go.Maps
attribute [local go_sem ↓] Go.wp_at_zero Go.wp_at_succ
def cutK (Post:Act→World→Prop) (Q:Exit→Act→World→Prop) (e:Exit) (a:Act) (w:World):Prop:=match e with
 | .normal=>Post a w
 | e=>Q e a w
theorem ZN {P:Program} {c:Code} {Q:Exit→Act→World→Prop} {a:Act} {w:World} (Post:Act→Act→World→Prop) (h:c.wp P (cutK (Post a) Q) a w) (hk: ∀ a' w',Post a a' w'→Q .normal a' w'):c.wp P Q a w:=
 Code.wp_mono (fun e a' w' h'=>by
  cases e with
  | normal=>exact hk a' w' h'
  | _=>exact h') h
def Zk (a:Act):List (Nat × Value)→Act
 | [] =>a
 | (d,v) :: r=>Zk (a.put (some d) v) r
theorem aaS {W:World} {K n:Nat} {T:TypeId} {f:Nat→Value} (h:W.rowIs K T n f) {o m:Nat} (vs:List Value) (hv:vs.length=m) (hm:o+m≤n) (he: ∀ j,j < m→vs[j]? =some (f (o+j))):W.rangeAt K o vs:=fun j v hj=>by
 have hlt:j < m:=by rw [← hv]; exact (List.getElem?_eq_some_iff.1 hj).1
 have h1:=h.cell (i:=o+j) (by omega);rw [h1,← he j hlt,hj]
structure abE (k:kd) (lo K b:Nat) (tab:Array Value) (l:List (aZ × Nat)) (ls:List gi) (a:Option Addr) (cap B:Nat) (W:World):Prop where
 aaq:P2 k.major k.fn.length (sz k.fn) tab
 fn:k.fn.length≤20
 prt:VK W K b l
 pure:l.map (·.1.pure)=k.parts
 eC:ls.map (·.c)=k.eC
 TN:W.rowIs K 107 65 (B3 k.now tab b a ls.length cap)
 own:W.ownsRow B 205 6 (.slice a ls.length cap) ls.length (qo.flat ls)
 fits: ∀ p∈l,p.1.Fits
 short:l.length≤6∧ls.length≤10
 lo:lo≤K
 wf: ∀ p∈l,(Lit.int .i64 p.1.q.id).wf=true
theorem rtK {Zb:Func} {R:Ending→World→Prop} {a:Act} {w:World} {old:Array Value} {p:Tmp} (hr:Zb.results= #[.cell p 37]) {g:Nat} {cs:Array Value} (hg:w.heap[g]? =some (.cells old 37 (0,0))) (h:R (.returned (.agg cs)) (w.setRow g cs)) (hp:a.tmps.getD p undef= .pointer (some ⟨g,0,none⟩):=by exact rfl) (hd:a.defers= [] :=by exact rfl)
  (hi:(Tryz.prog.info? 37).map (·.size)=some cs.size:=by kernel_rfl):bodyPost J3 Zb R .ret a (w.setRow g cs):=
 bodyPost_ret (v:= .agg cs) (results_cell_row hr _ _ g _ _ (0,0) _ hp (KU _ _ _ _ _ _ hg) Tryz.underlying37 rfl hi) hd h
theorem Zt.drew {w W3 W:World} {X lo n Y3 cp:Nat} {k:kd} {aw Zj:Option Addr} {l:List (aZ × Nat)} {I:List af} (h:Zt w W3 X lo k aw Y3 l n I Zj cp W):Zt w W3 X lo k aw Y3 l n I Zj cp W.drew:=⟨h.box,h.pg.same fun _ _=>rfl,h.pure,h.bl,h.same,h.cd.drew,h.size⟩
theorem ZX (k:kd) (lo K b:Nat) (tab:Array Value) (l:List (aZ × Nat)) (ls:List gi) (a:Option Addr) (cap B:Nat) (w:World) (h:abE k lo K b tab l ls a cap B w):
  Calls J3 72 #[.pointer (some ⟨K,0,none⟩)] w fun e W=> ∃ k':eA,e= .returned (.agg k'.row)∧gp W lo k'∧k'.pure=k∧Below w.heap.size w W:=by
 have HT:=aA h;have HK:Hid (w.rowIs K 107 65 (B3 k.now tab b a ls.length cap)):=h.TN;clear h;have hz:Below w.heap.size w (w.alloc (.cells T9 37)):=(Kp _ _).alloc (Ki _) _;have S:Hid ((w.alloc (.cells T9 37)).heap[w.heap.size]? =some (.cells T9 37 (0,0))∧Below w.heap.size w (w.alloc (.cells T9 37))):=⟨Kj _ _,hz⟩
 clear hz
 go_enter Tryz.func72,Tryz.ntmps72
 go_upto_region 1 with fail;generalize w.alloc (.cells T9 37)=W0 at *;have HKC:Hid (∀ W:World,Below w.heap.size w W→W.cell? ⟨K,0,none⟩=some (.int .i64 k.now)∧W.rangeAt K 1 tab.toList):=fun W hW=>by
  have hr:W.rowIs K 107 65 (B3 k.now tab b a ls.length cap):=HK.I.of_block (hW.block K HK.I.lt);refine ⟨hr.cell (i:=0) (by omega),aaS (m:=62) hr tab.toList (by rw [Array.length_toList]; exact HT.I.aaq.1) (by omega) fun j hj=> ?_⟩;have hlt:j < tab.size:=by rw [HT.I.aaq.1]; exact hj
  rw [Array.getElem?_toList];unfold B3;rw [if_neg (by omega),if_neg (by omega),if_neg (by omega),show 1+j - 1=j by omega,Array.getElem?_eq_getElem hlt];rfl
 refine ZN (fun a0 a' w'=> ∃ (X:Nat) (aw:Option Addr) (Y3:Nat) (d0 d1 d2 d3 d4 d5 d6 d7 d8 d9:Value),a'=Zk a0 [(8,d0),(9,d1),(10,d2),(11,d3),(12,d4),(13,d5),(14,d6),(15,d7),(16,d8),(17,d9),(3,.pointer (some ⟨X,0,none⟩))] ∧w'.heap[X]? =some (.cells #[.int .i64 k.now,.int .i64 k.major,.slice aw k.fn.length Y3,.slice none 0 0,.slice none 0 0] 37 (0,0))∧w'.ownsRow W0.heap.size 100 3 (.slice aw k.fn.length Y3) k.fn.length (jq.flat k.fn)∧W0.heap.size≤X∧X∉blk aw∧Below W0.heap.size W0 w') ?_ ?_
 ·refine Kr (S:=fun W=>Below w.heap.size w W) (by kernel_rfl) S.I.2.drew (fun _=> ?_)
  have HV:Hid (Below W0.heap.size W0 W0.drew∧Below w.heap.size w W0.drew):=⟨(Kp _ _).drew,S.I.2.drew⟩
  generalize World.drew _=V at *;refine tt 0 HV.I.2 ?_;refine tt 1 HV.I.2 ?_;refine tt 2 HV.I.2 ?_;refine tt 3 HV.I.2 ?_ (hy:=fun w0 hS0=>by have q0:=(HKC.I w0 hS0).1; go_simp; try with_reducible rfl);refine tt 4 HV.I.2 ?_;refine tt 5 HV.I.2 ?_;refine tt 6 HV.I.2 ?_;refine abe 7 (v:= .agg tab) rfl (yieldsIf_load_mid (by rfl) _ _ rfl K 1 (by rfl) tab.toList _ (fun _ h=>(HKC.I _ h).2) Tryz.underlying103 rfl (by rw [Dw,Array.length_toList,HT.I.aaq.1])) HV.I.2 ?_
  try simp only [pt,sb,s0,s1]
  have abF:Zr (sz k.fn) k.fn.length=jq.flat k.fn:=by have h5:=Z8 k.fn k.fn.length (Ki _); rwa [LQ] at h5
  have HFL:=aA abF;clear abF;refine KW (rs:= [8,10]) (by kernel_rfl) (by simp) ?_;refine KX rfl (fun Q hQ=> ?_) (KX rfl (fun Q hQ=> ?_) KY)
  focus
   simp only [KZ,K0,K1];rw [if_pos (by rfl)];go_wp2_with fail;refine (ZE tab k.major k.fn.length (sz k.fn) V HT.I.aaq HT.I.fn).mono ?_;rintro e W1 ⟨aw,Y3,rfl,ho,hb⟩;rw [HFL.I] at ho;have HW:Hid (W1.ownsRow V.heap.size 100 3 (.slice aw k.fn.length Y3) k.fn.length (jq.flat k.fn)∧Below W0.heap.size W0 W1∧Below w.heap.size w W1):=⟨ho,HV.I.1.trans (hb.mono HV.I.1.size),HV.I.2.trans (hb.mono HV.I.2.size)⟩
   clear ho hb;refine hQ.out _ _ HW.I.2.2 (fun _=> ?_);clear hQ Q
   try simp only [pt,sb,s0,s1]
   refine tt 9 HW.I.2.2 ?_;refine L7 10 (fun Q hQ=> ?_);go_wp2_with fail;have hz:Below W1.heap.size W1 (W1.alloc (.cells T9 37)):=(Kp _ _).alloc (Ki _) _;refine hQ.out _ _ (HW.I.2.2.trans (hz.mono HW.I.2.2.size)) (fun _=> ?_);clear hQ Q hz
   try simp only [pt,sb,s0,s1]
   refine L7 11 (fun Q hQ=> ?_);go_wp2_with fail;have hz:Below W1.heap.size W1 (W1.alloc (.cells #[.int .i64 k.now,.int .i64 k.major,.slice aw k.fn.length Y3,.slice none 0 0,.slice none 0 0] 37)):=(Kp _ _).alloc (Ki _) _;have hv0:W0.heap.size≤V.heap.size:=HV.I.1.size;refine hQ.out _ _ (HW.I.2.2.trans (hz.mono HW.I.2.2.size)) (fun _=> ?_);clear hQ Q;refine K3 (by kernel_rfl) ?_ _;exact ⟨W1.heap.size,aw,Y3,_,_,_,_,_,_,_,_,_,_,by simp only [Zk,pt,sb,s0,s1]; rfl,Kj _ _,cq (cR HW.I.1 hz) hv0,HW.I.2.1.size,fun hm=>by have:=(cf HW.I.1 hm).2; omega,HW.I.2.1.trans (hz.mono HW.I.2.1.size)⟩
  ·simp only [KZ,K0,K1]
   rw [if_pos (by rfl)];go_wp2_with fail;have hz:Below V.heap.size V (V.alloc (.cells T9 37)):=(Kp _ _).alloc (Ki _) _;have HU:Hid (Below W0.heap.size W0 (V.alloc (.cells T9 37))∧Below w.heap.size w (V.alloc (.cells T9 37))∧(V.alloc (.cells T9 37)).heap[V.heap.size]? =some (.cells T9 37 (0,0))∧W0.heap.size≤V.heap.size):=⟨HV.I.1.trans (hz.mono HV.I.1.size),HV.I.2.trans (hz.mono HV.I.2.size),Kj _ _,HV.I.1.size⟩
   refine hQ.out _ _ HU.I.2.1 (fun _=> ?_);clear hQ Q hz
   try simp only [pt,sb,s0,s1]
   generalize V.alloc (.cells T9 37)=U at *;generalize V.heap.size=X at *;refine L7 8 (fun Q hQ=> ?_);go_wp2_with fail;refine (ZE tab k.major k.fn.length (sz k.fn) U HT.I.aaq HT.I.fn).mono ?_;rintro e W1 ⟨aw,Y3,rfl,ho,hb⟩;rw [HFL.I] at ho;have hxu:=(J2.1 HU.I.2.2.1).1;have HW:Hid (W1.ownsRow U.heap.size 100 3 (.slice aw k.fn.length Y3) k.fn.length (jq.flat k.fn)∧Below W0.heap.size W0 W1∧Below w.heap.size w W1∧W1.heap[X]? =some (.cells T9 37 (0,0))∧X < U.heap.size):=⟨ho,HU.I.1.trans (hb.mono HU.I.1.size),HU.I.2.1.trans (hb.mono HU.I.2.1.size),(hb.block _ hxu).trans HU.I.2.2.1,hxu⟩
   clear ho hb hxu;refine hQ.out _ _ HW.I.2.2.1 (fun _=> ?_);clear hQ Q
   try simp only [pt,sb,s0,s1]
   refine tt 9 HW.I.2.2.1 ?_;refine L7 11 (fun Q hQ=> ?_);refine qd _ _ _ rfl X _ _ #[.int .i64 k.now,.int .i64 k.major,.slice aw k.fn.length Y3,.slice none 0 0,.slice none 0 0] rfl rfl HW.I.2.2.2.1 (by kernel_rfl) rfl (by simp [Value.oneCell']) ?_;have hx0:W0.heap.size≤X:=HU.I.2.2.2;have hw0:w.heap.size≤X:=by have:=S.I.2.size; omega
   refine hQ.out _ _ (kz HW.I.2.2.1 hw0 _) (fun _=> ?_);clear hQ Q;refine K3 (by kernel_rfl) ?_ _;exact ⟨X,aw,Y3,_,_,_,_,_,_,_,_,_,_,by simp only [Zk,pt,sb,s0,s1]; rfl,KU _ _ _ _ _ _ HW.I.2.2.2.1,cq (aL HW.I.1 fun g hg=>KH _ _ _ _ (by have:=(cf HW.I.1 hg).1; have:=HW.I.2.2.2.2; omega)) (by have:=HW.I.2.2.2.2; omega),hx0,fun hm=>by have:=(cf HW.I.1 hm).1; have:=HW.I.2.2.2.2; omega,kz HW.I.2.1 hx0 _⟩
 ·rintro a' W1 ⟨X,aw,Y3,d0,d1,d2,d3,d4,d5,d6,d7,d8,d9,rfl,hX,hw,hx0,hxa,hb⟩
  have HX:Hid (W1.heap[X]? =some (.cells #[.int .i64 k.now,.int .i64 k.major,.slice aw k.fn.length Y3,.slice none 0 0,.slice none 0 0] 37 (0,0))∧W1.ownsRow W0.heap.size 100 3 (.slice aw k.fn.length Y3) k.fn.length (jq.flat k.fn)∧W0.heap.size≤X∧X∉blk aw∧Below W0.heap.size W0 W1):=⟨hX,hw,hx0,hxa,hb⟩
  clear hX hw hx0 hxa hb HKC;simp only [Zk,pt,sb,s0,s1];have HB:Hid (Below w.heap.size w W1):=S.I.2.trans (HX.I.2.2.2.2.mono S.I.2.size);have c63:W1.cell? ⟨K,63,none⟩=some (.map (some b)):=(J1 (w:=w) (a:=⟨K,63,none⟩) (HB.I.block K HK.I.lt)).trans (HK.I.cell (i:=63) (by omega));go_wp2_with fail;refine (Z2 _ _).mono ?_;rintro e W2 ⟨rfl,hw2⟩;have hmap:cF w b (l.map fun p=>(p.1.q.id,p.2)):=HT.I.prt.map;have hb2:Below W1.heap.size W1 W2:=by rw [hw2]; exact (Kp _ _).alloc (Ki _) _
  have c0:W2.cell? ⟨W1.heap.size,0,none⟩=some (.map (some b)):=by rw [hw2]; simp
  have oX:W1.heap.size < W2.heap.size:=by rw [hw2]; simp
  have Mb:=ZF W1.heap.size b (l.map fun p=>(p.1.q.id,p.2)) W2 oX c0 ((hmap.below HB.I).below hb2) (by have:=HT.I.short.1; simp; omega);have cy:Hid (Below W1.heap.size W1 W2):=hb2;clear hmap hb2 c0 oX c63 hw2;go_wp2_with fail;refine Mb.mono ?_;clear Mb;rintro e W3 ⟨v,rfl,hov,hb3⟩;obtain ⟨YN,Y0,hv,hrow⟩:=cr hov;rw [KG] at hv;rw [hv];have HR:Hid (Row W3 YN (Xn (l.map fun p=>p.1.q.id))):=by show Row W3 YN _; rw [Lv] at hrow; simpa [Lv,Ls] using hrow
  have oh:Hid (Below W1.heap.size W1 W3):=cy.I.trans (hb3.mono cy.I.size);have SC:Hid (∀ g∈blk YN,W1.heap.size≤g∧g < W3.heap.size):=fun g hg=>by rw [hv] at hov; have h5:=cf (by rw [KG] at hov; exact hov) hg; have h6:=cy.I.size; exact ⟨by omega,h5.2⟩
  clear hv hov hrow hb3 cy;have HPR:Hid (VK w K b l):=HT.I.prt;have HXX:Hid (w.heap.size≤X∧X < W3.heap.size):=⟨by have:=S.I.2.size; have:=HX.I.2.2.1; omega,by have:=(J2.1 HX.I.1).1; have:=oh.I.size; omega⟩
  have HALL:Hid (∀ p∈l,∀ g∈p.1.all p.2,g < w.heap.size):=fun p hp g hg=>by obtain ⟨bs,-,ho⟩:=HPR.I.part p hp; exact (ho.xy g hg).2
  have HC:Hid (∀ W:World,Below w.heap.size w W→W.cell? ⟨K,63,none⟩=some (.map (some b))):=fun W hW=>(J1 (w:=w) (a:=⟨K,63,none⟩) (hW.block K HK.I.lt)).trans (HK.I.cell (i:=63) (by omega))
  have HLK:Hid (∀ p∈l,∀ W:World,Below w.heap.size w W→(Instr.lookup 104 (.map (some b)) (.int .i64 p.1.q.id) false).run J3 W= .ok (.pointer (some ⟨p.2,0,none⟩)) W):=fun p hp W hW=>by
   have h5:=(HPR.I.map.below hW).look Tryz.underlying104 (TQ W) (HT.I.wf p hp) false;rw [jI HPR.I.map.2 (p:=(p.1.q.id,p.2)) (List.mem_map.2 ⟨p,hp,rfl⟩)] at h5;exact h5
  go_wp2_with fail
  go_loopw [25] (fun i wr=> ∃ n:Nat,n≤l.length∧i= .int .i64 n∧Hid (∃ (I:List af) (Zj:Option Addr) (cp:Nat),Zt w W3 X lo k aw Y3 l n I Zj cp wr)) (fun i _=>l.length - (intOf i).toNat)
  case atStart=>exact ⟨0,Ky _,rfl,⟨[],none,0,(oh.I.block X (J2.1 HX.I.1).1).trans HX.I.1,YR.start _ _ _,rfl,(by simp),fun _ _ _=>rfl,HB.I.trans (oh.I.mono HB.I.size),Ki _⟩⟩
  case round=>
   obtain ⟨n,hk,rfl,HA⟩:=hrel;by_cases hlt:n < l.length
   ·have qE:(0:Int)≤(n:Int):=by omega
    have i1:(n:Int) < (l.length:Int):=by omega
    obtain ⟨p,hp⟩: ∃ p,l[n]? =some p:=⟨_,Kz hlt⟩
    obtain ⟨I,Zj,cp,hA⟩:=HA.I;replace HA:=aA hA;clear hA;obtain ⟨g,ha,hc⟩:=HR.I n (.int .i64 p.1.q.id) (by simp [Xn,hp]);have hgl:=SC.I g (by rw [ha]; simp [blk]);have hgx:g≠X:=by have:=(J2.1 HX.I.1).1; omega
    replace hc:=(J1 (HA.I.same g hgl.2 hgx)).trans hc;subst ha;have HP:Hid (l[n]? =some p):=hp;have hpm:Hid (p∈l):=List.mem_of_getElem? hp;clear hgl hgx hp;go_upto_region 5 with fail;refine ZN (fun a0 a' w'=> ∃ (e0 e1 e2 e3 e4 e5 e6 e7 e8 e9 Pn e11:Value) (aaF:List af) (ap2:Option Addr) (cp2:Nat),a'=Zk a0 [(29,e0),(30,e1),(31,e2),(32,e3),(33,e4),(34,e5),(35,e6),(36,e7),(37,e8),(38,e9),(39,Pn),(40,e11)] ∧Zt w W3 X lo k aw Y3 l (n+1) aaF ap2 cp2 w') ?_ ?_
    ·refine Kr (S:=fun W=>Below w.heap.size w W) (by kernel_rfl) HA.I.cd.drew (fun _=> ?_)
     replace HA:=aA HA.I.drew;generalize World.drew _=V at *;clear hc;refine tt 0 HA.I.cd ?_;refine tt 2 HA.I.cd ?_;refine tt 3 HA.I.cd ?_;refine tt 4 HA.I.cd ?_;refine tt 5 HA.I.cd ?_ (hy:=fun w0 hS0=>by have q0:=HC.I w0 hS0; go_simp; try with_reducible rfl);refine tt 6 HA.I.cd ?_;refine tt 7 HA.I.cd ?_ (hy:=fun w0 hS0=>by have q0:=HLK.I p hpm.I w0 hS0; go_simp; try with_reducible rfl)
     try simp only [pt,sb,s0,s1]
     have HCX:Hid (∀ W:World,W.heap[X]? =some (.cells (Zq k aw Y3 (.slice Zj I.length cp) (.slice none 0 0)) 37 (0,0))→W.cell? ⟨X,3,none⟩=some (.slice Zj I.length cp)):=fun W h=>by simp [World.cell?,h,Zq]
     have abD:Hid (Calls J3 47 #[.pointer (some ⟨p.2,0,none⟩)] V fun e W5=> ∃ r:af,e= .returned (.agg r.cells)∧Below V.heap.size V W5∧ ∃ a' cap' w',(Builtin.append_ #[34,34] 34 #[.slice Zj I.length cp,.slice (some ⟨W5.heap.size,0,none⟩) 1 1]).run J3 (W5.alloc (.cells r.cells 48))= .ok (.slice a' (I.length+1) cap') w'∧Below w.heap.size w w'∧w'.heap[X]? =some (.cells (Zq k aw Y3 (.slice Zj I.length cp) (.slice none 0 0)) 37 (0,0))∧Zt w W3 X lo k aw Y3 l (n+1) (I ++ [r]) a' cap' (w'.setCell ⟨X,3,none⟩ (.slice a' (I.length+1) cap'))):=by
      obtain ⟨bs,hK,ho⟩:=HPR.I.part p hpm.I;refine Calls.mono (ZZ p.2 bs p.1 V (ho.same fun g _ hl=>HA.I.cd.block g hl) (HT.I.fits p hpm.I)) ?_;rintro e W5 ⟨r,rfl,hr,gn,hb,hbl⟩;exact ⟨r,rfl,hb,HA.I.step HP.I HPR.I.apart HALL.I HXX.I HT.I.short.1 (hr.lower (by have:=HT.I.lo; omega)) gn hb hbl⟩
     refine KW (rs:= [1,8]) (by kernel_rfl) (by simp) ?_;refine KX rfl (fun Q hQ=> ?_) (KX rfl (fun Q hQ=> ?_) KY)
     focus
      simp only [KZ,K0,K1];rw [if_pos (by rfl)];have c3:=HCX.I V HA.I.box
      skip
      go_wp2_with fail;clear c3;refine hQ.out _ _ HA.I.cd (fun _=> ?_);clear hQ Q
      try simp only [pt,sb,s0,s1]
      refine L7 8 (fun Q hQ=> ?_);go_wp2_with fail;refine abD.I.mono ?_;rintro e W5 ⟨r,rfl,iJ,a',cap',w',hap,lY,lW,hpl⟩;have H5:Hid (Below w.heap.size w W5∧Below w.heap.size w (W5.alloc (.cells r.cells 48))∧W5.heap[X]? =V.heap[X]? ∧(W5.alloc (.cells r.cells 48)).heap[X]? =V.heap[X]?):=by
       have hv:=HA.I.cd.trans (iJ.mono HA.I.cd.size);have hx:W5.heap[X]? =V.heap[X]? :=iJ.block X (by have:=HA.I.size; have:=HXX.I.2; omega);exact ⟨hv,hv.alloc hv.size _,hx,(Below.heap_alloc _ _ _ (by have:=iJ.size; have:=HA.I.size; have:=HXX.I.2; omega)).trans hx⟩
      have HN:Hid ((Builtin.append_ #[34,34] 34 #[.slice Zj I.length cp,.slice (some ⟨W5.heap.size,0,none⟩) 1 1]).run J3 (W5.alloc (.cells r.cells 48))= .ok (.slice a' (I.length+1) cap') w'):=hap;have HM:Hid (Below w.heap.size w w'∧w'.heap[X]? =some (.cells (Zq k aw Y3 (.slice Zj I.length cp) (.slice none 0 0)) 37 (0,0))∧Zt w W3 X lo k aw Y3 l (n+1) (I ++ [r]) a' cap' (w'.setCell ⟨X,3,none⟩ (.slice a' (I.length+1) cap'))):=⟨lY,lW,hpl⟩
      clear hap lY lW hpl iJ;refine hQ.out _ _ H5.I.1 (fun _=> ?_);clear hQ Q
      try simp only [pt,sb,s0,s1]
      refine L7 9 (fun Q hQ=> ?_);simp only [af.cells];go_wp2_with fail;refine hQ.out _ _ H5.I.2.1 (fun _=> ?_);clear hQ Q
      try simp only [pt,sb,s0,s1]
     rotate_left
     focus
      simp only [KZ,K0,K1];rw [if_pos (by rfl)];go_wp2_with fail;refine abD.I.mono ?_;rintro e W5 ⟨r,rfl,iJ,a',cap',w',hap,lY,lW,hpl⟩;have H5:Hid (Below w.heap.size w W5∧Below w.heap.size w (W5.alloc (.cells r.cells 48))∧W5.heap[X]? =V.heap[X]? ∧(W5.alloc (.cells r.cells 48)).heap[X]? =V.heap[X]?):=by
       have hv:=HA.I.cd.trans (iJ.mono HA.I.cd.size);have hx:W5.heap[X]? =V.heap[X]? :=iJ.block X (by have:=HA.I.size; have:=HXX.I.2; omega);exact ⟨hv,hv.alloc hv.size _,hx,(Below.heap_alloc _ _ _ (by have:=iJ.size; have:=HA.I.size; have:=HXX.I.2; omega)).trans hx⟩
      have HN:Hid ((Builtin.append_ #[34,34] 34 #[.slice Zj I.length cp,.slice (some ⟨W5.heap.size,0,none⟩) 1 1]).run J3 (W5.alloc (.cells r.cells 48))= .ok (.slice a' (I.length+1) cap') w'):=hap;have HM:Hid (Below w.heap.size w w'∧w'.heap[X]? =some (.cells (Zq k aw Y3 (.slice Zj I.length cp) (.slice none 0 0)) 37 (0,0))∧Zt w W3 X lo k aw Y3 l (n+1) (I ++ [r]) a' cap' (w'.setCell ⟨X,3,none⟩ (.slice a' (I.length+1) cap'))):=⟨lY,lW,hpl⟩
      clear hap lY lW hpl iJ;refine hQ.out _ _ H5.I.1 (fun _=> ?_);clear hQ Q
      try simp only [pt,sb,s0,s1]
      refine KW (rs:= [1,9]) (by kernel_rfl) (by simp) ?_;refine KX rfl (fun Q hQ=> ?_) (KX rfl (fun Q hQ=> ?_) KY)
      focus
       simp only [KZ,K0,K1];rw [if_pos (by rfl)];have c3:=HCX.I W5 (H5.I.2.2.1.trans HA.I.box)
       skip
       go_wp2_with fail;clear c3;refine hQ.out _ _ H5.I.1 (fun _=> ?_);clear hQ Q
       try simp only [pt,sb,s0,s1]
       refine L7 9 (fun Q hQ=> ?_);simp only [af.cells];go_wp2_with fail;refine hQ.out _ _ H5.I.2.1 (fun _=> ?_);clear hQ Q
       try simp only [pt,sb,s0,s1]
      rotate_left
      focus
       simp only [KZ,K0,K1];rw [if_pos (by rfl)];simp only [af.cells];go_wp2_with fail;refine hQ.out _ _ H5.I.2.1 (fun _=> ?_);clear hQ Q
       try simp only [pt,sb,s0,s1]
       refine L7 1 (fun Q hQ=> ?_);have c3:=HCX.I _ (H5.I.2.2.2.trans HA.I.box);simp only [af.cells] at c3;go_wp2_with fail;clear c3;refine hQ.out _ _ H5.I.2.1 (fun _=> ?_);clear hQ Q
       try simp only [pt,sb,s0,s1]
     all_goals
      refine L7 10 (fun Q hQ=> ?_);refine cM _ _ 34 rfl _ _ _ w' rfl rfl HN.I ?_;refine hQ.out _ _ HM.I.1 (fun _=> ?_);clear hQ Q
      try simp only [pt,sb,s0,s1]
      refine tt 11 HM.I.1 ?_;refine L7 12 (fun Q hQ=> ?_);have c3:w'.cell? ⟨X,3,none⟩=some (.slice Zj I.length cp):=HCX.I _ HM.I.2.1;have u3:w'.frozen? ⟨X,3,none⟩=false:=by have:=HM.I.2.1; simp [World.frozen?,this,Zq]
      go_wp2_with fail;clear c3 u3;refine hQ.out _ _ HM.I.2.2.cd (fun _=> ?_);clear hQ Q;refine K3 (by kernel_rfl) ?_ _;exact ⟨_,_,_,_,_,_,_,_,_,_,_,_,I ++ [r],a',cap',by simp only [Zk,pt,sb,s0,s1]; rfl,HM.I.2.2⟩
    ·rintro a' W4 ⟨e0,e1,e2,e3,e4,e5,e6,e7,e8,e9,Pn,e11,aaF,ap2,cp2,rfl,hpl⟩
     have HN:=aA hpl;clear hpl hc;simp only [Zk,pt,sb,s0,s1];have hl6:=HT.I.short.1;go_wp2_with fail;go_roundw
     case rel=>exact ⟨n+1,by omega,by go_num,⟨aaF,ap2,cp2,HN.I⟩⟩
     case measure=>simp [intOf]; omega
   ·have i1: ¬ (n:Int) < (l.length:Int):=by omega
    have ek:n=l.length:=by omega
    subst ek;obtain ⟨I,Zj,cp,hA⟩:=HA.I;replace HA:=aA hA;clear hA;obtain ⟨W4,hW4⟩: ∃ W4,W4=wr:=⟨_,rfl⟩
    subst hW4;have c64:W4.cell? ⟨K,64,none⟩=some (.slice a ls.length cap):=(J1 (w:=w) (a:=⟨K,64,none⟩) (HA.I.cd.block K HK.I.lt)).trans (HK.I.cell (i:=64) (by omega));have hx4:X < W4.heap.size:=by have:=HA.I.size; have:=HXX.I.2; omega
    have HX4:Hid (w.heap.size≤X∧X < W4.heap.size):=⟨HXX.I.1,hx4⟩
    clear hx4;go_wp2_with fail;clear c64;have hls:ls.length≤10:=HT.I.short.2
    go_loopw [47] (fun i YE=> ∃ n:Nat,n≤ls.length∧i= .int .i64 n∧Hid (∃ (ac:Option Addr) (cc:Nat),aaI w W4 X k aw Y3 (.slice Zj I.length cp) ls n ac cc YE)) (fun i _=>ls.length - (intOf i).toNat)
    case atStart=>exact ⟨0,Ky _,rfl,⟨none,0,HA.I.box,World.ownsRow_nil _ _ _ _,fun _ _ _=>rfl,HA.I.cd,Ki _⟩⟩
    case round=>
     obtain ⟨n,hk2,rfl,HD⟩:=hrel;obtain ⟨ac,cc,hD⟩:=HD.I;replace HD:=aA hD;clear hD;by_cases hlt:n < ls.length
     ·have qE:(0:Int)≤(n:Int):=by omega
      have i1:(n:Int) < (ls.length:Int):=by omega
      obtain ⟨m,hm⟩: ∃ m,ls[n]? =some m:=⟨_,Kz hlt⟩
      have hrow:Row w a (qo.flat ls):=by obtain ⟨a2,c2,e2,hr⟩:=cr HT.I.own; cases e2; exact hr
      obtain ⟨gl,ha,k0,k1,k2,k3,k4,k5⟩:=Vq (hrow.same (w':=wr) fun g e=>HD.I.cd.block g (cf HT.I.own (by rw [e]; simp [blk])).2) hm;subst ha;clear hrow;go_upto_region 10 with fail;clear k0 k1 k2 k3 k4 k5;have hz:Below wr.heap.size wr (wr.alloc (.cells (fz m) 205)):=(Kp _ _).alloc (Ki _) _;have lW:(wr.alloc (.cells (fz m) 205)).heap[X]? =some (.cells (Zq k aw Y3 (.slice Zj I.length cp) (.slice ac n cc)) 37 (0,0)):=(hz.block X (J2.1 HD.I.box).1).trans HD.I.box;have wU:(wr.alloc (.cells (fz m) 205)).heap[wr.heap.size]? =some (.cells (fz m) 205 (0,0)):=Kj _ _;have hstep:=HD.I.step hm HX4.I hls hz;clear hz;generalize wr.alloc (.cells (fz m) 205)=W6 at *;obtain ⟨a',cap',w',hap,lY,hpl⟩:=hstep;have HN:=aA hpl;have b4:W6.cell? ⟨X,4,none⟩=some (.slice ac n cc):=by simp [World.cell?,lW,Zq]
      have m0:W6.cell? ⟨wr.heap.size,0,none⟩=some (.int .i64 m.c.src):=by simp [World.cell?,wU]
      have m1:W6.cell? ⟨wr.heap.size,1,none⟩=some (.int .i64 m.c.ga):=by simp [World.cell?,wU]
      have m2:W6.cell? ⟨wr.heap.size,2,none⟩=some (.int .i64 m.c.dst):=by simp [World.cell?,wU]
      have m3:W6.cell? ⟨wr.heap.size,3,none⟩=some (.int .i64 m.c.hI):=by simp [World.cell?,wU]
      have y4:w'.cell? ⟨X,4,none⟩=some (.slice ac n cc):=by simp [World.cell?,lY,Zq]
      have z4:w'.frozen? ⟨X,4,none⟩=false:=by simp [World.frozen?,lY,Zq]
      clear hpl lY lW wU hm;go_wp2_with (at_builtin; refine br _ rfl _ _ 35 rfl _ _ _ _ rfl rfl hap ?_);go_roundw
      case rel=>exact ⟨n+1,by omega,by go_num,⟨a',cap',HN.I⟩⟩
      case measure=>simp [intOf]; omega
     ·have i1: ¬ (n:Int) < (ls.length:Int):=by omega
      have ek:n=ls.length:=by omega
      subst ek;have hne:w.heap.size≠X:=by have:=(J2.1 S.I.1).1; have:=HX.I.2.2.1; omega
      have hz0:wr.heap[w.heap.size]? =some (.cells T9 37 (0,0)):=by
       have h0:=(J2.1 S.I.1).1;have h1:=HX.I.2.2.2.2.size;have h3:=oh.I.size;have h4:=HA.I.size;exact (HD.I.same _ (by omega) hne).trans ((HA.I.same _ (by omega) hne).trans ((oh.I.block _ (by omega)).trans ((HX.I.2.2.2.2.block _ h0).trans S.I.1)))
      have lW:=HD.I.box;have b0:wr.cell? ⟨X,0,none⟩=some (.int .i64 k.now):=by simp [World.cell?,lW,Zq]
      have b1:wr.cell? ⟨X,1,none⟩=some (.int .i64 k.major):=by simp [World.cell?,lW,Zq]
      have b2:wr.cell? ⟨X,2,none⟩=some (.slice aw k.fn.length Y3):=by simp [World.cell?,lW,Zq]
      have b3:wr.cell? ⟨X,3,none⟩=some (.slice Zj I.length cp):=by simp [World.cell?,lW,Zq]
      have b4:wr.cell? ⟨X,4,none⟩=some (.slice ac ls.length cc):=by simp [World.cell?,lW,Zq]
      clear lW;go_wp2_with (refine wpList_store_row rfl 37 (.tmp 2) (.tmp 59) rfl _ _ _ #[.int .i64 k.now,.int .i64 k.major,.slice aw k.fn.length Y3,.slice Zj I.length cp,.slice ac ls.length cc] rfl rfl hz0 (by kernel_rfl) rfl (by simp [Value.oneCell']) ?_);refine rtK Tryz.results72 hz0 ?_;have q0:=(J2.1 S.I.1).1;have q1:=HX.I.2.2.2.2.size;have q3:=oh.I.size;have q4:=HA.I.size;have q5:=HD.I.size;have qk:=HK.I.lt;have YM:=HT.I.lo;have flat: ∀ g∈I.flatMap af.Mc,(W3.heap.size≤g∨g < w.heap.size)∧g < W4.heap.size:=fun g hg=>by
       refine ⟨?_,HA.I.pg.lt g (Ly _ hg)⟩;obtain ⟨q,hq,hgq⟩:=List.mem_flatMap.1 hg;rcases HA.I.bl q hq g hgq with h5 | ⟨q',h5,h6⟩
       ·exact .inl h5
       ·exact .inr (HALL.I q' (List.mem_of_mem_take h5) g (List.mem_cons_of_mem _ (Ly _ h6)))
      have TX: ∀ g∈blk aw,W0.heap.size≤g∧g < W1.heap.size∧g≠X:=fun g hg=>⟨(cf HX.I.2.1 hg).1,(cf HX.I.2.1 hg).2,fun e=>HX.I.2.2.2.1 (by rw [← e]; exact hg)⟩
      have hpar: ∀ g∈blk Zj,W3.heap.size≤g∧g < W4.heap.size:=fun g hg=>cf HA.I.pg.own hg
      have aao: ∀ g∈blk ac,W4.heap.size≤g:=fun g hg=>(cf HD.I.own hg).1
      generalize hcs: #[Value.int .i64 k.now,.int .i64 k.major,.slice aw k.fn.length Y3,.slice Zj I.length cp,.slice ac ls.length cc] =cs;have sm: ∀ g,g < W4.heap.size→g≠X→g≠w.heap.size→(wr.setRow w.heap.size cs).heap[g]? =W4.heap[g]? :=fun g h1 h2 h3=>(KH _ _ _ _ h3).trans (HD.I.same g h1 h2)
      have sm1: ∀ g,g < W1.heap.size→g≠X→g≠w.heap.size→(wr.setRow w.heap.size cs).heap[g]? =W1.heap[g]? :=fun g h1 h2 h3=>(sm g (by omega) h2 h3).trans ((HA.I.same g (by omega) h2).trans (oh.I.block g h1))
      have hx:=HXX.I;have pg2:=HA.I.pg.same (W1:=wr.setRow w.heap.size cs) fun g hg=>by
       rcases Kg.1 hg with hg | hg
       ·have:=hpar g hg; exact sm g (by omega) (by omega) (by omega)
       ·have:=flat g hg; exact sm g (by omega) (by omega) (by omega)
      have own1:=aL (w':=wr.setRow w.heap.size cs) HX.I.2.1 fun g hg=>by have:=TX g hg; exact sm1 g (by omega) (by omega) (by omega)
      have abv:=aL (w':=wr.setRow w.heap.size cs) HD.I.own fun g hg=>KH _ _ _ _ (by have:=aao g hg; omega)
      rw [LQ] at abv;have e1:I.map (·.pure)=k.parts:=by rw [HA.I.pure,LQ]; exact HT.I.pure
      have e2:ls.map (·.c)=k.eC:=HT.I.eC;refine ⟨⟨k.now,k.major,k.fn,aw,Y3,I,Zj,cp,ls.map (·.c),ac,cc⟩,by simp [← hcs],⟨cq own1 (by omega),cq pg2.own (by omega),?_,pg2.mine,?_⟩,by show kd.mk k.now k.major k.fn (I.map (·.pure)) (ls.map (·.c))=k; rw [e1,e2],kz HD.I.cd (Ki _) _⟩
      ·rw [KG]
       exact cq abv (by omega)
      ·have hb1: ∀ x:Option Addr,(blk x).Nodup:=fun x=>by cases x <;> simp [blk]
       have hn:=Kf.1 HA.I.pg.nodup;refine Kf.2 ⟨hb1 _,Kf.2 ⟨hb1 _,Kf.2 ⟨hb1 _,hn.2.1,fun g hg g' hg' e=> ?_⟩,fun g hg g' hg' e=> ?_⟩,fun g hg g' hg' e=> ?_⟩
       ·have:=aao g hg; have:=flat g' hg'; omega
       ·rcases Kg.1 hg' with h5 | h5
        ·have:=hpar g hg; have:=aao g' h5; omega
        ·exact hn.2.2 g hg g' h5 e
       ·have:=TX g hg
        rcases Kg.1 hg' with h5 | h5
        ·have:=hpar g' h5; omega
        ·rcases Kg.1 h5 with h5 | h5
         ·have:=aao g' h5; omega
         ·have:=flat g' h5; omega
theorem WJ (l:List af) (id:Int):hP (fun p:aE=>p.id) id (l.map (·.pure))=(hP (fun p:af=>p.id) id l).map (·.pure):=by
 unfold hP;rw [List.find?_map];rfl
structure VW (w:World) (k:eA) (W:World):Prop where
 ks:dr w w.heap.size k W
 I:W.heap[w.heap.size+1]? =some (.cells ar 48 (0,0))
theorem VW.below {w W W2:World} {k:eA} (h:VW w k W) (hb:Below W.heap.size W W2):VW w k W2:=⟨h.ks.below hb,(hb.block _ (J2.1 h.I).1).trans h.I⟩
theorem VW.first {w:World} {k:eA} (h:eA.At w k):VW w k ((w.alloc (.cells k.row 37)).alloc (.cells ar 48)):=
 ⟨(dr.first h).below ((Kp _ _).alloc (Ki _) _),heap_alloc2_new _ _ _⟩
theorem Ww {k:kd} (h:eP k=true): ∀ p∈k.parts,aQ p:=by
 simp only [eP,J7] at h;have key: ∀ (l:List aE) (last:Int),aw (·.id) bK last l=true→ ∀ p∈l,aQ p:=by
  intro l
  induction l with
  | nil=>intro _ _ p hp; cases hp
  | cons x r ih=>
   intro last h p hp;simp only [aw,J7] at h;rcases List.mem_cons.1 hp with rfl | hp
   ·exact (ch _).1 h.1.2
   ·exact ih _ h.2 p hp
 exact key _ _ h.1.2
end
end Go.Proofs.YteidkehoekbcaaaGreat
