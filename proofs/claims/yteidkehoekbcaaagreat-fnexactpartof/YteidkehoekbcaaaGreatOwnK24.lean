/- What the proof leans on, part 24. -/
import Derived.Test.YteidkehoekbcaaaGreatOwnK22
import Derived.Test.YteidkehoekbcaaaGreatOwnK23
set_option maxRecDepth 100000
set_option maxHeartbeats 8000000
open Array renaming getElem?_eq_some_iff->J2
open Go renaming heap_alloc_new->Kj,wpAnyH_done->K3,wp_region_held_drew->Kr
open Go.AllReadyH renaming cons->KX,nil->KY
open Go.Proofs.Tryz renaming prog->J3
open Go.RowKit.Below renaming refl->Kp
open List renaming getElem?_eq_getElem->Kz,getElem_cons_succ->K1,getElem_cons_zero->K0,getElem_toArray->KZ,mem_append->Kg,mem_map->Lr,mem_of_getElem?->KA
open Nat renaming le_refl->Ki,zero_le->Ky
open Option renaming isSome_some->Qk

namespace Go.Proofs.YteidkehoekbcaaaGreat
section
open Go.RowKit Go.Maps
attribute [local go_sem ↓] Go.wp_at_zero Go.wp_at_succ
def ko (ps:List aE) (ls:List gi) (c:eQ):Bool:=pa ps c && !(ls.map (·.c)).any (hR ps c)
def Vv (w:World) (K b:Nat) (now:Int) (tab:Array Value) (l:List (aZ × Nat)) (ps:List aE) (ls:List gi) (c:eQ) (e:Ending) (W:World):Prop:=
 (ko ps ls c=false∧e= .returned (.bool false)∧aI w W [K])∨(ko ps ls c=true∧e= .returned (.bool true)∧ ∃ s t a cap,Joins l ⟨c,s,t⟩∧T1 w K b now tab a cap (ls ++ [⟨c,s,t⟩]) W)
def P1 (W:World) (X:Nat) (c:eQ):Prop:=W.heap[X]? =some (.cells (nx c) 80 (0,0))
theorem P1.cells {W:World} {X:Nat} {c:eQ} (h:P1 W X c):W.cell? ⟨X,0,none⟩=some (.int .i64 c.src)∧W.cell? ⟨X,1,none⟩=some (.int .i64 c.ga)∧W.cell? ⟨X,2,none⟩=some (.int .i64 c.dst)∧W.cell? ⟨X,3,none⟩=some (.int .i64 c.hI):=by
 unfold P1 at h;simp [World.cell?,h]
theorem P1.below {W W2:World} {X:Nat} {c:eQ} (h:P1 W X c) (hb:Below W.heap.size W W2):P1 W2 X c:=(hb.block _ (J2.1 h).1).trans h
structure LkS (w:World) (K b:Nat) (now:Int) (tab:Array Value) (a:Option Addr) (cap:Nat) (ls:List gi) (X:Nat) (c:eQ) (W:World):Prop where
 US:T1 w K b now tab a cap ls W
 box:P1 W X c
theorem LkS.below {w W W2:World} {K b:Nat} {now:Int} {tab:Array Value} {a:Option Addr} {cap:Nat} {ls:List gi} {X:Nat} {c:eQ} (h:LkS w K b now tab a cap ls X c W) (hb:Below W.heap.size W W2):LkS w K b now tab a cap ls X c W2:=⟨h.US.below hb,h.box.below hb⟩
theorem Tj {W:World} {X s t:Nat} {c:eQ} (h:W.heap[X]? =some (.cells (fz ⟨c,s,t⟩) 205 (0,0))):W.cell? ⟨X,0,none⟩=some (.int .i64 c.src)∧W.cell? ⟨X,1,none⟩=some (.int .i64 c.ga)∧W.cell? ⟨X,2,none⟩=some (.int .i64 c.dst)∧W.cell? ⟨X,3,none⟩=some (.int .i64 c.hI)∧W.cell? ⟨X,4,none⟩=some (.pointer (some ⟨s,0,none⟩))∧W.cell? ⟨X,5,none⟩=some (.pointer (some ⟨t,0,none⟩)):=by
 simp [World.cell?,h]
theorem Vm (w:World) (K b:Nat) (now:Int) (tab:Array Value) (a:Option Addr) (cap:Nat) (ls:List gi) (l:List (aZ × Nat)) (ps:List aE) (c:eQ) (W:World) (hp:VK w K b l) (hl:l.map (·.1.pure)=ps) (hL: ∀ o∈ls,Joins l o) (hn:ls.length≤10) (hc:c.Wf) (hS:T1 w K b now tab a cap ls W):
  Calls J3 147 #[.pointer (some ⟨K,0,none⟩),.agg (nx c)] W fun e W'=>Vv w K b now tab l ps ls c e W':=by
 have hz:Below W.heap.size W (W.alloc (.cells (nx c) 80)):=(Kp _ _).alloc (Ki _) _;have S:Hid (LkS w K b now tab a cap ls W.heap.size c (W.alloc (.cells (nx c) 80))):=⟨hS.below hz,Kj _ _⟩
 have HP:=aA hp;have HL:=aA (And.intro hl (And.intro hL hn));have HC:=aA hc;clear hz hS hp hl hL hn hc
 go_enter Tryz.func147,Tryz.ntmps147
 go_upto_region 1 with fail;generalize W.alloc (.cells (nx c) 80)=W1 at *;generalize W.heap.size=X at *;have hc1:=TP K b l c.src c.ga W1 (S.I.US.kmap HP.I) HC.I.1 HC.I.2.1;obtain ⟨m0,m1,m2,m3⟩:=S.I.box.cells;go_wp2_with fail;clear m0 m1 m2 m3;refine hc1.mono ?_;clear hc1;rintro e W2 ⟨rfl,hb2⟩;replace S:=aA (S.I.below hb2);clear hb2;have hc1:=TP K b l c.dst c.hI W2 (S.I.US.kmap HP.I) HC.I.2.2.1 HC.I.2.2.2;obtain ⟨m0,m1,m2,m3⟩:=S.I.box.cells;go_wp2_with fail;clear m0 m1 m2 m3;refine hc1.mono ?_;clear hc1;rintro e W3 ⟨rfl,hb2⟩;replace S:=aA (S.I.below hb2);clear hb2;have h1:=D3 (fun p hm=>((HP.I.kept S.I.US.kept).part p hm).imp fun _ h=>h.2) HL.I.1 c.src c.ga;have h2:=D3 (fun p hm=>((HP.I.kept S.I.US.kept).part p hm).imp fun _ h=>h.2) HL.I.1 c.dst c.hI;rcases h1 with ⟨h1,VF⟩ | ⟨s,x,h1,VF,hx⟩
 ·have HN:Hid (ko ps ls c=false):=by show _=_; simp [ko,pa,VF]
  rw [h1];clear h1 h2 VF;generalize qz (kt l c.dst c.hI)=pv;generalize (kt l c.dst c.hI).isSome=pb;simp only [qz,Option.isSome_none];obtain ⟨m0,m1,m2,m3⟩:=S.I.box.cells;go_wp2;go_ret;exact .inl ⟨HN.I,rfl,S.I.US.kept⟩
 have bC:=aA h1;rw [h1];rcases h2 with ⟨h2,h2e⟩ | ⟨t,y,h2,h2e,hy⟩
 ·have HN:Hid (ko ps ls c=false):=by show _=_; simp [ko,pa,VF,h2e]
  rw [h2];clear h1 h2 VF h2e hx bC;simp only [qz,dt,Option.isSome_none,Qk];obtain ⟨m0,m1,m2,m3⟩:=S.I.box.cells;go_wp2;go_ret;exact .inl ⟨HN.I,rfl,S.I.US.kept⟩
 have eb:=aA h2;rw [h2];have HB:Hid (pa ps c=(!decide (c.src=c.dst) && x.I && !y.I && (x.Mf == y.Mf))):=by show _=_; simp only [pa,VF,h2e]
 have HQ:Hid (zo ps c=x.Mf):=by show _=_; simp only [zo,VF]
 have Mb:=TY s t x y W3 hx hy;have UR:=aA (And.intro hx hy);clear h1 h2 VF h2e hx hy;simp only [qz,dt,Qk];obtain ⟨m0,m1,m2,m3⟩:=S.I.box.cells;by_cases hsd:c.src=c.dst
 ·have HN:Hid (ko ps ls c=false):=by show _=_; simp [ko,HB.I,hsd]
  have e1:(c.src == c.dst)=true:=by simp [hsd]
  clear hsd Mb;go_wp2;go_ret;exact .inl ⟨HN.I,rfl,S.I.US.kept⟩
 have e1:(c.src == c.dst)=false:=by simp [hsd]
 have HSD:Hid (decide (c.src=c.dst)=false):=decide_eq_false hsd;clear hsd;go_wp2_with fail;clear m0 m1 m2 m3 e1;refine Mb.mono ?_;clear Mb;rintro e W4 ⟨rfl,hb4⟩;replace S:=aA (S.I.below hb4);replace UR:Hid (W4.heap[s]? =some (.cells (cW x) 85 (0,0))∧W4.heap[t]? =some (.cells (cW y) 85 (0,0))):=⟨(hb4.block _ (J2.1 UR.I.1).1).trans UR.I.1,(hb4.block _ (J2.1 UR.I.2).1).trans UR.I.2⟩
 clear hb4;cases hlead:(x.I && !y.I && (x.Mf == y.Mf))
 ·have HN:Hid (ko ps ls c=false):=by show _=_; rw [ko,HB.I,HSD.I]; simp only [Bool.not_false,Bool.true_and,hlead,Bool.false_and]
  clear hlead;obtain ⟨m0,m1,m2,m3⟩:=S.I.box.cells;go_wp2;go_ret;exact .inl ⟨HN.I,rfl,S.I.US.kept⟩
 have HCB:Hid (pa ps c=true):=by show _=_; rw [HB.I,HSD.I]; simp only [Bool.not_false,Bool.true_and,hlead]
 clear hlead HB HSD;obtain ⟨m0,m1,m2,m3⟩:=S.I.box.cells;go_upto_region 6 with fail;clear m0 m1 m2 m3;have hz:Below W4.heap.size W4 (W4.alloc (.cells (fz ⟨c,s,t⟩) 205)):=(Kp _ _).alloc (Ki _) _;have HY:Hid ((∀ g∈blk a,g < W4.heap.size)∧(W4.alloc (.cells (fz ⟨c,s,t⟩) 205)).heap[W4.heap.size]? =some (.cells (fz ⟨c,s,t⟩) 205 (0,0))):=⟨fun g hg=>(cf S.I.US.own hg).2,Kj _ _⟩
 replace UR:Hid ((W4.alloc (.cells (fz ⟨c,s,t⟩) 205)).heap[s]? =some (.cells (cW x) 85 (0,0))):=(hz.block _ (J2.1 UR.I.1).1).trans UR.I.1;have HW4:=aA S.I.US.kept.size;replace S:=aA (S.I.US.below hz);have HYK:Hid (K < W4.heap.size):=by show K < _; have h1:=(HP.I.k); have h2:=HW4.I; omega
 clear hz HW4;generalize W4.alloc (.cells (fz ⟨c,s,t⟩) 205)=W5 at *;generalize W4.heap.size=Y at *;refine Kr (S:=fun W=>W.cell? ⟨K,64,none⟩=some (.slice a ls.length cap)∧W.heap[Y]? =some (.cells (fz ⟨c,s,t⟩) 205 (0,0))) (by kernel_rfl) ⟨S.I.TN.cell (i:=64) (by omega),HY.I.2⟩ (fun _=> ?_);replace S:=aA (S.I.below (Kp _ _).drew);replace UR:Hid (W5.drew.heap[s]? =some (.cells (cW x) 85 (0,0))):=UR.I;replace HY:Hid ((∀ g∈blk a,g < Y)∧W5.drew.heap[Y]? =some (.cells (fz ⟨c,s,t⟩) 205 (0,0))):=HY.I;generalize World.drew _=V at *;have HS:Hid (V.cell? ⟨K,64,none⟩=some (.slice a ls.length cap)∧V.heap[Y]? =some (.cells (fz ⟨c,s,t⟩) 205 (0,0))):=⟨S.I.TN.cell (i:=64) (by omega),HY.I.2⟩
 refine tt 0 HS.I ?_;refine tt 1 HS.I ?_;refine tt 2 HS.I ?_;refine tt 3 HS.I ?_;refine tt 4 HS.I ?_ (hy:=fun w0 hS0=>by obtain ⟨q0,q1,q2,q3,q4,q5⟩:=Tj hS0.2; go_simp; try with_reducible rfl);refine tt 5 HS.I ?_;refine L7 6 (fun Q hQ=> ?_);go_wp2_with fail;have hAt:=fun p hm=>((HP.I.kept S.I.kept).part p hm).imp fun _ h=>h.2
 refine (UQ a ls cap ⟨c,s,t⟩ x V (by have:=HL.I.2.2; omega) (nP S.I.own) UR.I (Joins.at hAt HL.I.1 ⟨bC.I,eb.I⟩) (fun o ho=>Joins.at hAt HL.I.1 (HL.I.2.1 o ho))).mono ?_;clear hAt HS UR;rintro e W6 ⟨rfl,jQ⟩;replace S:=aA (S.I.below jQ);replace HY:Hid ((∀ g∈blk a,g < Y)∧W6.heap[Y]? =some (.cells (fz ⟨c,s,t⟩) 205 (0,0))):=⟨HY.I.1,(jQ.block _ (J2.1 HY.I.2).1).trans HY.I.2⟩
 clear jQ;refine hQ.out _ _ ⟨S.I.TN.cell (i:=64) (by omega),HY.I.2⟩ (fun _=> ?_);clear hQ Q;refine K3 (by kernel_rfl) ?_ _;have HM:Hid (ls.any (ts ⟨c,s,t⟩ x.Mf)=(ls.map (·.c)).any (hR ps c)):=by have h:=Ub (ps:=ps) HP.I.nodup (m:=⟨c,s,t⟩) ⟨bC.I,eb.I⟩ HL.I.2.1; rw [HQ.I] at h; exact h
 generalize ls.any (ts ⟨c,s,t⟩ x.Mf)=r at *;cases r
 case true=>
  have HN:Hid (ko ps ls c=false):=by show _=_; rw [ko,HCB.I,← HM.I]; rfl
  go_wp2;go_ret;exact .inl ⟨HN.I,rfl,S.I.kept⟩
 have HT:Hid (ko ps ls c=true):=by show _=_; rw [ko,HCB.I,← HM.I]; rfl
 clear HM HCB HQ;go_upto_region 8 with fail;refine Kr (S:=fun W=>W.heap[Y]? =some (.cells (fz ⟨c,s,t⟩) 205 (0,0))) (by kernel_rfl) HY.I.2 (fun _=> ?_);replace S:=aA (S.I.below (Kp _ _).drew);replace HY:Hid ((∀ g∈blk a,g < Y)∧W6.drew.heap[Y]? =some (.cells (fz ⟨c,s,t⟩) 205 (0,0))):=HY.I;generalize World.drew _=V2 at *;refine tt 0 HY.I.2 ?_;refine tt 1 HY.I.2 ?_;refine tt 2 HY.I.2 ?_;refine tt 3 HY.I.2 ?_;refine tt 5 HY.I.2 ?_ (hy:=fun w0 hS0=>by obtain ⟨q0,q1,q2,q3,q4,q5⟩:=Tj hS0; go_simp; try with_reducible rfl);obtain ⟨a2,Ta,W7,hap,mP,hk7⟩:=Vc ⟨c,s,t⟩ S.I.own HL.I.2.2 S.I.kept.size;have HA:=aA (And.intro mP hk7);clear mP hk7;have c64:V2.cell? ⟨K,64,none⟩=some (.slice a ls.length cap):=S.I.TN.cell (i:=64) (by omega);have d64:(V2.alloc (.cells (fz ⟨c,s,t⟩) 205)).cell? ⟨K,64,none⟩=some (.slice a ls.length cap):=(S.I.TN.alloc _).cell (i:=64) (by omega);have hY1:(V2.alloc (.cells (fz ⟨c,s,t⟩) 205)).heap[Y]? =some (.cells (fz ⟨c,s,t⟩) 205 (0,0)):=(PU (J2.1 HY.I.2).1).trans HY.I.2;have Ul:Hid (K∉blk a∧Y∉blk a∧Y≠K):=⟨fun hm=>by have h1:=(cf S.I.own hm).1; have h2:=HP.I.k; omega,fun hm=>by have h1:=HY.I.1 Y hm; omega,by have:=HYK.I; omega⟩
 have HR7:Hid (W7.rowIs K 107 65 (B3 now tab b a ls.length cap)∧W7.heap[Y]? =some (.cells (fz ⟨c,s,t⟩) 205 (0,0))):=⟨S.I.TN.of_block (HA.I.2.same K S.I.TN.lt Ul.I.1),(HA.I.2.same Y (J2.1 HY.I.2).1 Ul.I.2.1).trans HY.I.2⟩
 have HE:Hid (∀ W,W=W7.setCell ⟨K,64,none⟩ (.slice a2 (ls.length+1) Ta)→T1 w K b now tab a2 Ta (ls ++ [⟨c,s,t⟩]) W):=fun W hW=>by rw [hW]; exact S.I.more HP.I.k HA.I.1 HA.I.2
 refine wpAnyH_ready (rs:= [4,6]) (by kernel_rfl) (by simp) ?_;refine KX rfl (fun Q hQ=> ?_) (KX rfl (fun Q hQ=> ?_) KY)
 focus
  simp only [KZ,K0,K1];rw [if_pos (by rfl)];go_wp2_with fail;refine hQ.out _ _ HY.I.2 (fun _=> ?_);clear hQ Q
  try simp only [pt,sb,s0,s1]
  refine L7 6 (fun Q hQ=> ?_);go_wp2_with fail;refine hQ.out _ _ hY1 (fun _=> ?_);clear hQ Q
  try simp only [pt,sb,s0,s1]
 rotate_left
 focus
  simp only [KZ,K0,K1];rw [if_pos (by rfl)];go_wp2_with fail;refine hQ.out _ _ hY1 (fun _=> ?_);clear hQ Q
  try simp only [pt,sb,s0,s1]
  refine L7 4 (fun Q hQ=> ?_);go_wp2_with fail;refine hQ.out _ _ hY1 (fun _=> ?_);clear hQ Q
  try simp only [pt,sb,s0,s1]
 all_goals
  refine L7 7 (fun Q hQ=> ?_);refine cM _ _ _ rfl _ _ _ W7 rfl rfl hap ?_;refine hQ.out _ _ HR7.I.2 (fun _=> ?_);clear hQ Q
  try simp only [pt,sb,s0,s1]
  refine tt 8 HR7.I.2 ?_;refine tt 9 HR7.I.2 ?_;refine L7 10 (fun Q hQ=> ?_);have k64:=HR7.I.1.cell (i:=64) (by omega);have f64:=HR7.I.1.frozen 64;go_wp2_with fail;refine hQ.out _ _ ((Go.Deep.blk_setCell_other _ _ _ _ Ul.I.2.2).trans HR7.I.2) (fun _=> ?_);clear hQ Q k64 f64;refine K3 (by kernel_rfl) ?_ _;go_wp2;go_ret;exact .inr ⟨HT.I,rfl,s,t,a2,Ta,⟨bC.I,eb.I⟩,HE.I _ rfl⟩
def sm (w:World) (a a':Option Addr) (l l':List af) (W:World):Prop:=kp.bU W a l∧kp.bU W a' l'∧Below w.heap.size w W
theorem sm.below {w W W2:World} {a a':Option Addr} {l l':List af} (h:sm w a a' l l' W) (hb:Below W.heap.size W W2):sm w a a' l l' W2:=⟨h.1.below hb,h.2.1.below hb,h.2.2.trans (hb.mono h.2.2.size)⟩
theorem UA (a a':Option Addr) (l l':List af) (cap cap':Nat) (w:World) (hl:l.length≤1048576) (hk: ∀ x∈l,x.pure.Small) (hp:l'.map (·.pure)=l.map (·.pure)) (h:kp.bU w a l) (h':kp.bU w a' l'):
  Calls J3 43 #[.slice a l.length cap,.slice a' l.length cap'] w fun e w'=>e= .returned (.bool true)∧Below w.heap.size w w':=by
 have S:Hid (sm w a a' l l' w):=⟨h,h',Kp _ _⟩
 have HK:Hid ((∀ x∈l,x.pure.Small)∧l'.map (·.pure)=l.map (·.pure)):=⟨hk,hp⟩
 clear h h' hk hp
 go_enter Tryz.func43,Tryz.ntmps43
 go_wp2_with fail
 go_loopw [5] (fun i wr=> ∃ k:Nat,k≤l.length∧i= .int .i64 k∧Hid (sm w a a' l l' wr)) (fun i _=>l.length - (Go.RowKit.intOf i).toNat)
 case atStart=>exact ⟨0,Ky _,rfl,S⟩
 case round=>
  clear S;obtain ⟨k,hk,rfl,S⟩:=hrel;by_cases hlt:k < l.length
  ·have i0:(0:Int)≤(k:Int):=by omega
   have i1:(k:Int) < (l.length:Int):=by omega
   obtain ⟨x,hx⟩: ∃ x,l[k]? =some x:=⟨_,Kz hlt⟩
   obtain ⟨g,ha,-⟩:=ic S.I.1 hx;obtain ⟨y,hy,hpy⟩:=uH HK.I.2 hx;obtain ⟨g',ha',-⟩:=ic S.I.2.1 hy;have HX:Hid (y.pure=x.pure∧x.pure.Small):=⟨hpy,HK.I.1 x (KA hx)⟩
   have HC:Hid (∀ W,sm w a a' l l' W→af.In W g k x∧af.In W g' k y∧af.At W x∧af.At W y):=fun W h=>by
    obtain ⟨g1,e1,h1,t1⟩:=ic h.1 hx;obtain ⟨g2,e2,h2,t2⟩:=ic h.2.1 hy;cases ha.symm.trans e1;cases ha'.symm.trans e2;exact ⟨h1,h2,t1,t2⟩
   clear hx hy hpy;rw [ha,ha'];have HA:Hid (a=some ⟨g,0,none⟩∧a'=some ⟨g',0,none⟩):=⟨ha,ha'⟩
   clear ha ha';go_wp2_with fail;refine aT (sm w a a' l l') (by kernel_rfl) (S.I.below (Kp _ _).drew) ?_
   iterate 8 (refine PI ?_ (hy:=fun w0 hS0=>by obtain ⟨⟨q0,q1,q2,q3,q4,q5,q6,q7⟩,⟨r0,r1,r2,r3,r4,r5,r6,r7⟩,-⟩:=HC.I w0 hS0; go_simp; try with_reducible rfl))
   refine cl (.bool true) 15 #[.agg x.row,.agg y.row] ?_ (fun w0 hS0=>(Vb x y w0 HX.I.2 HX.I.1 (HC.I w0 hS0).2.2.1 (HC.I w0 hS0).2.2.2).mono fun e w1 h=>⟨h.1,hS0.below h.2⟩) ?_
   ·intro w0 hS0
    obtain ⟨⟨q0,q1,q2,q3,q4,q5,q6,q7⟩,⟨r0,r1,r2,r3,r4,r5,r6,r7⟩,-⟩:=HC.I w0 hS0
    go_simp
    try with_reducible rfl
   simp only [pt,sb,s0,s1];refine PI ?_;refine bk (by kernel_rfl) (fun w1 cm=> ?_) _;go_wp2;go_roundw
   case rel=>exact ⟨k+1,by omega,by go_num,(by have h:=cm; rw [HA.I.1,HA.I.2] at h; exact h)⟩
   case measure=>simp [Go.RowKit.intOf]; omega
  ·have i1: ¬ (k:Int) < (l.length:Int):=by omega
   go_wp2;go_ret;exact ⟨rfl,S.I.2.2⟩
theorem Tl {w:World} {p:af} (h: ∀ r∈il p,Src w r.1 r.2):p.ep w:=by
 have h1: ∀ r∈ [(p.aN,bg.flat p.L8),(p.bc,dm.flat p.aj),(p.ay,bJ.flat p.L9),(p.ax,bG.flat p.ag),(p.am,bm.flat p.ae),(p.aK,bX.flat p.ai)],Src w r.1 r.2:=fun r hr=>h r (by simp only [il,Kg]; exact .inl (.inl (.inl hr)))
 refine ⟨⟨h1 (p.aN,bg.flat p.L8) (by simp),fun x hx r hr=>h r ?_⟩,⟨h1 (p.bc,dm.flat p.aj) (by simp),fun x _ r hr=>by simp [dm] at hr⟩,⟨h1 (p.ay,bJ.flat p.L9) (by simp),fun x _ r hr=>by simp [bJ] at hr⟩,⟨h1 (p.ax,bG.flat p.ag) (by simp),fun x _ r hr=>by simp [bG] at hr⟩,⟨h1 (p.am,bm.flat p.ae) (by simp),fun x hx r hr=>h r ?_⟩,⟨h1 (p.aK,bX.flat p.ai) (by simp),fun x hx r hr=>h r ?_⟩⟩
 all_goals simp only [il,Kg,List.mem_flatMap]
 ·exact .inl (.inl (.inr ⟨x,hx,hr⟩))
 ·exact .inl (.inr ⟨x,hx,hr⟩)
 ·exact .inr ⟨x,hx,hr⟩
theorem UM (a:Option Addr) (l:List af) (cap:Nat) (left:Int) (w:World) (hl:l.length≤maxLen) (hc:kp.ep w a l) (hs: ∀ x∈l,x.Ud) (h0:0≤left) (h1:left≤1048576):
  Calls J3 32 #[.slice a l.length cap,.int .i64 left] w fun e w'=>jZ w left (l.length+g9 (fun x:af=>x.pure.total) l) (l.length≤1048576∧ ∀ x∈l,x.yq) e w':=by
 have hl':=hl;unfold maxLen at hl';by_cases hn:left - (l.length:Int) < 0
 ·go_enter Tryz.func32,Tryz.ntmps32
  go_wp2;go_ret;exact cT (Kp _ _) h0
 have HC:Hid (kp.ep w a l∧ ∀ x∈l,x.Ud):=⟨hc,hs⟩
 clear hc hs hl
 go_enter Tryz.func32,Tryz.ntmps32
 go_wp2_with fail
 go_loopw [1,5] (fun q i wr=> ∃ (k:Nat) (r:Int),k≤l.length∧i= .int .i64 k∧q= .int .i64 r∧0≤r∧r≤left - (l.length:Int)∧Hid ((∀ x∈l.take k,x.yq)∧r+(g9 (fun x:af=>x.pure.total) (l.take k):Nat)≤left - (l.length:Int)∧Below w.heap.size w wr)) (fun _ i _=>l.length - (Go.RowKit.intOf i).toNat)
 case atStart=>exact ⟨0,left - (l.length:Int),Ky _,rfl,rfl,by omega,by omega,⟨by simp,by simp [g9],Kp _ _⟩⟩
 case round=>
  obtain ⟨k,r,hk,rfl,rfl,r0,r1,HA⟩:=hrel;by_cases hlt:k < l.length
  ·have i0:(0:Int)≤(k:Int):=by omega
   have i1:(k:Int) < (l.length:Int):=by omega
   obtain ⟨x,hx⟩: ∃ x,l[k]? =some x:=⟨_,Kz hlt⟩
   have hmem:=KA hx;obtain ⟨b,off,rfl,hat⟩:=(HC.I.1.below HA.I.2.2).at hx;have c0:wr.cell? ⟨b,off+k * 8,none⟩=some (.int .i64 x.id):=hat 0 _ rfl;have c1:wr.cell? ⟨b,off+k * 8+1,none⟩=some (.int .i64 x.next):=hat 1 _ rfl;have c2:wr.cell? ⟨b,off+k * 8+2,none⟩=some (.slice x.aN x.L8.length x.aW):=hat 2 _ rfl;have c3:wr.cell? ⟨b,off+k * 8+3,none⟩=some (.slice x.bc x.aj.length x.bF):=hat 3 _ rfl;have c4:wr.cell? ⟨b,off+k * 8+4,none⟩=some (.slice x.ay x.L9.length x.aO):=hat 4 _ rfl;have c5:wr.cell? ⟨b,off+k * 8+5,none⟩=some (.slice x.ax x.ag.length x.aP):=hat 5 _ rfl;have c6:wr.cell? ⟨b,off+k * 8+6,none⟩=some (.slice x.am x.ae.length x.aG):=hat 6 _ rfl;have c7:wr.cell? ⟨b,off+k * 8+7,none⟩=some (.slice x.aK x.ai.length x.aV):=hat 7 _ rfl;have HX:Hid (l[k]? =some x∧x.Ud):=⟨hx,HC.I.2 x hmem⟩
   have Mb:=U6 x r wr HX.I.2 (Tl ((HC.I.1.below HA.I.2.2).2 x hmem)) r0 (by omega);unfold af.cells at Mb;clear hx hmem hat;go_wp2_with fail;refine Mb.mono ?_;clear Mb;rintro e w1 ⟨r2,rfl,q0,q1,q2,hb1⟩;have fQ:Hid (Below w.heap.size w w1∧(0≤r2→x.yq∧r2+(x.pure.total:Nat)≤r)):=⟨HA.I.2.2.trans (hb1.mono HA.I.2.2.size),q2⟩
   clear hb1 q2 c0 c1 c2 c3 c4 c5 c6 c7;by_cases hneg:r2 < 0
   ·go_wp2
    go_ret;exact cT fQ.I.1 h0
   go_wp2;go_roundw
   case rel=>exact ⟨k+1,r2,by omega,by go_num,rfl,by omega,by omega,⟨nE HX.I.1 HA.I.1 (fQ.I.2 (by omega)).1,by rw [zg HX.I.1]; have h5:=(fQ.I.2 (by omega)).2; have h6:=HA.I.2.1; omega,fQ.I.1⟩⟩
   case measure=>simp [Go.RowKit.intOf]; omega
  ·have i1: ¬ (k:Int) < (l.length:Int):=by omega
   go_wp2;go_ret;exact ⟨r,rfl,by omega,by omega,fun _=>⟨⟨by omega,po (by omega) HA.I.1⟩,by have h5:=HA.I.2.1; rw [List.take_of_length_le (by omega)] at h5; omega⟩,HA.I.2.2⟩
theorem UD (m:Int) (a:Option Addr) (l:List pA) (cap:Nat) (left:Int) (w:World) (hl:l.length≤maxLen) (h0:0≤left) (h1:left≤1048576):
  Calls J3 31 #[.agg #[.int .i64 m,.slice a l.length cap],.int .i64 left] w fun e w'=>jZ w left l.length (l.length≤1048576) e w':=by
 have HB:Hid (Below w.heap.size w (w.alloc (.cells #[.int .i64 m,.slice a l.length cap] 24))):=(Kp _ _).alloc (Ki _) _
 go_enter Tryz.func31,Tryz.ntmps31
 go_wp2_with fail;refine (Va a l cap left _ hl h0 h1).mono ?_;rintro e w1 ⟨r,rfl,q0,q1,q2,hb⟩;have H1:Hid (Below w.heap.size w w1∧(0≤r→l.length≤1048576∧r+(l.length:Nat)≤left)):=⟨HB.I.trans (hb.mono HB.I.size),q2⟩
 clear hb q2;by_cases hneg:r < 0
 ·go_wp2
  go_ret;exact cT H1.I.1 h0
 go_wp2;go_ret;exact ⟨r,rfl,by omega,by omega,H1.I.2,H1.I.1⟩
structure eA.ep (w:World) (k:eA):Prop where
 fn:jq.ep w k.vb k.fn
 parts:kp.ep w k.qn k.parts
 eC:hM.ep w k.qi k.eC
theorem eA.ep.below {w w':World} {k:eA} (h:k.ep w) (hb:Below w.heap.size w w'):k.ep w':=⟨h.fn.below hb,h.parts.below hb,h.eC.below hb⟩
structure eA.Ud (k:eA):Prop where
 Ts:k.fn.length≤maxLen
 sC:k.parts.length≤maxLen
 w8:k.eC.length≤maxLen
 parts: ∀ p∈k.parts,p.Ud
structure eA.yq (k:eA):Prop where
 Ts:k.fn.length≤1048576
 sC:k.parts.length≤1048576
 w8:k.eC.length≤1048576
 parts: ∀ p∈k.parts,p.yq
theorem Um (k:eA) (left:Int) (w:World) (hb:k.Ud) (hc:k.ep w) (h0:0≤left) (h1:left≤1048576):
  Calls J3 8 #[.agg k.row,.int .i64 left] w fun e w'=>jZ w left (k.fn.length+(k.parts.length+g9 (fun x:af=>x.pure.total) k.parts)+k.eC.length) k.yq e w':=by
 have HX:Hid ((w.alloc (.cells k.row 28)).heap[w.heap.size]? =some (.cells k.row 28 (0,0))∧Below w.heap.size w (w.alloc (.cells k.row 28))):=⟨Kj _ _,(Kp _ _).alloc (Ki _) _⟩
 have HB:=aA hb;have HC:=aA hc;clear hb hc
 go_enter Tryz.func8,Tryz.ntmps8
 go_upto_region 1 with fail;generalize w.alloc (.cells k.row 28)=W at *;have c1:W.cell? ⟨w.heap.size,1,none⟩=some (.int .i64 k.major):=by simp [World.cell?,HX.I.1]
 have c2:W.cell? ⟨w.heap.size,2,none⟩=some (.slice k.vb k.fn.length k.Te):=by simp [World.cell?,HX.I.1]
 go_wp2_with fail;clear c1 c2;refine (UD k.major k.vb k.fn k.Te left W HB.I.Ts h0 h1).mono ?_;rintro e w1 ⟨r1,rfl,q0,q1,q2,hb⟩;replace HX:=aA (And.intro ((hb.block _ (J2.1 HX.I.1).1).trans HX.I.1) (HX.I.2.trans (hb.mono HX.I.2.size)));have H1:=aA q2;clear hb q2;by_cases hn1:r1 < 0
 ·go_wp2
  go_ret;exact cT HX.I.2 h0
 have c3:w1.cell? ⟨w.heap.size,3,none⟩=some (.slice k.qn k.parts.length k.sa):=by simp [World.cell?,HX.I.1]
 go_wp2_with fail;clear c3;refine (UM k.qn k.parts k.sa r1 w1 HB.I.sC (HC.I.parts.below HX.I.2) HB.I.parts (by omega) (by omega)).mono ?_;rintro e w2 ⟨r2,rfl,p0,p1,p2,hb⟩;replace HX:=aA (And.intro ((hb.block _ (J2.1 HX.I.1).1).trans HX.I.1) (HX.I.2.trans (hb.mono HX.I.2.size)));have H2:=aA p2;clear hb p2;by_cases hn2:r2 < 0
 ·go_wp2
  go_ret;exact cT HX.I.2 h0
 have c4:w2.cell? ⟨w.heap.size,4,none⟩=some (.slice k.qi k.eC.length k.tC):=by simp [World.cell?,HX.I.1]
 go_wp2_with fail;clear c4;refine (UB k.qi k.eC k.tC r2 w2 HB.I.w8 (by omega) (by omega)).mono ?_;rintro e w3 ⟨r3,rfl,s0,s1,s2,hb⟩;replace HX:=aA (HX.I.2.trans (hb.mono HX.I.2.size));have H3:=aA s2;clear hb s2;by_cases hn3:r3 < 0
 ·go_wp2
  go_ret;exact cT HX.I h0
 go_wp2;go_ret;exact ⟨r3,rfl,by omega,by omega,fun _=>⟨⟨(H1.I (by omega)).1,(H2.I (by omega)).1.1,(H3.I (by omega)).1,(H2.I (by omega)).1.2⟩,by have a1:=(H1.I (by omega)).2; have a2:=(H2.I (by omega)).2; have a3:=(H3.I (by omega)).2; omega⟩,HX.I⟩
end
section
open Go.RowKit
structure af.Ints (p:af):Prop where
 L8: ∀ x∈p.L8,x.Wf
 aj: ∀ x∈p.aj,(Lit.int .i64 x.id).wf=true
 L9: ∀ x∈p.L9,(Lit.int .i64 x.id).wf=true
 ag: ∀ x∈p.ag,(Lit.int .i64 x.id).wf=true
 ae: ∀ x∈p.ae,(Lit.int .i64 x.id).wf=true
 ai: ∀ x∈p.ai,(Lit.int .i64 x.id).wf=true
theorem UT {p:af} (h:p.yq) (hi:p.Ints):p.pure.Small:=by
 refine ⟨by simpa [af.pure] using h.dl,h.fx,h.cD,h.cC,by simpa [af.pure] using h.cb,by simpa [af.pure] using h.dH,fun x hx=> ?_,hi.aj,hi.L9,fun x hx=>⟨hi.ag x hx,h.ag x hx⟩,fun x hx=> ?_,fun x hx=> ?_⟩
 ·obtain ⟨y,hy,rfl⟩:=Lr.1 hx
  have h1:=h.L8 y hy;have h2:=hi.L8 y hy;exact ⟨⟨h1.prog,h1.ops,h1.held,h1.got⟩,h2.id,h2.on,h2.RU⟩
 ·obtain ⟨y,hy,rfl⟩:=Lr.1 hx
  exact ⟨hi.ae y hy,h.ae y hy⟩
 ·obtain ⟨y,hy,rfl⟩:=Lr.1 hx
  exact ⟨hi.ai y hy,h.ai y hy⟩
end
end Go.Proofs.YteidkehoekbcaaaGreat
