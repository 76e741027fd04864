/- What the proof leans on, part 17. -/
import Derived.Test.YtckenjkcmajicaaGreatOwnF11
import Derived.Test.YtckenjkcmajicaaGreatOwnF12
import Derived.Test.YtckenjkcmajicaaGreatOwnF13
import Derived.Test.YtckenjkcmajicaaGreatOwnF14
set_option linter.all false
set_option maxRecDepth 100000
set_option maxHeartbeats 8000000
open Go.Proofs.Tryz
open Go renaming World->w_,Value->v_,Calls->k_,Addr->d_,TypeId->T_
open Go.Ending renaming returned->r_
open Go.IntKind renaming i64->j_
open Go.Obj renaming cells->c_
open Go.RowKit renaming Below->B_,Hid->bN
open Go.Value renaming int->i_,slice->s_,bool->b_,agg->a_,pointer->p_,tuple->u_
open Option renaming some->o_,none->n_
open Bool renaming true_and->aeN
open Go renaming run_append_own_at->abY,wp_at_succ->Kd,wp_at_zero->Kc
open Go.Deep renaming blk_setCell_other->ac5
open Go.Proofs.Tryz renaming prog->J3
open Go.RowKit.Below renaming heap_alloc->adD
open Go.World renaming putObj_heap_other->adX
open List renaming find?_map->aeu,find?_some->PS,flatMap_append->aej,flatMap_cons->aez,getElem_cons_succ->K1,getElem_cons_zero->K0,getElem_toArray->KZ,length_singleton->adg,map_singleton->adl,mem_cons_self->LA,mem_of_find?_eq_some->RG
open Option renaming isSome_none->aeH,isSome_some->Qk,map_map->aeF,map_some->J9

open Go.RowKit
namespace Go.Proofs.YtckenjkcmajicaaGreat
section
open Go.Maps
attribute [local go_sem ↓] Kc Kd
structure T1 (w:w_) (K b:Nat) (bj:Int) (tab:Array v_) (a:Option d_) (cap:Nat) (ls:List gi) (W:w_):Prop where
 kept:aI w W [K]
 TN:W.rowIs K 69 65 (B3 bj tab b a ls.length cap)
 own:W.ownsRow w.heap.size 91 6 (s_ a ls.length cap) ls.length (qo.flat ls)
section
variable {w W W2:w_} {K b:Nat} {bj:Int} {tab:Array v_} {a:Option d_} {cap:Nat} {ls:List gi} {l:List (aZ × Nat)} {ps:List aE}
def T1.below (h:T1 w K b bj tab a cap ls W) (hb:B_ W.heap.size W W2):T1 w K b bj tab a cap ls W2:=⟨h.kept.trans (.dI hb),h.TN.of_block (hb.block _ h.TN.lt),cR h.own hb⟩
structure VK (w:w_) (K b:Nat) (l:List (aZ × Nat)):Prop where
 map:cF w b (l.map fun p=>(p.1.q.id,p.2))
 part: ∀ p∈l,∃ bi,K < bi/\cJ w bi p.2 p.1
 nodup:(l.flatMap fun p=>p.1.lq.map (·.2)).Nodup
 kb:K≠b
 k:K < w.heap.size
 apart:l.Pairwise fun p q=> ∀ g∈p.1.all p.2,∀ g'∈q.1.all q.2,g≠g'
def VK.kept (h:VK w K b l) (hk:aI w W [K]):VK W K b l:=
 ⟨h.map.same (hk.same b h.map.lt (by simp [h.kb.symm])),fun p hm=>by
  obtain ⟨bs,h1,h2⟩:=h.part p hm;exact ⟨bs,h1,h2.same fun g hg hl=>hk.same g hl ZbZ⟩,h.nodup,h.kb,by have:=hk.size; have:=h.k; omega,h.apart⟩
def T1.apL (h:T1 w K b bj tab a cap ls W) (hp:VK w K b l):KMap W K b l:=
 have h2:=hp.kept h.kept
 ⟨h.TN.cell (i:=63) zw,h2.map,fun p hm=>(h2.part p hm).imp fun _ h=>h.2⟩
def D3 (hp: ∀ p∈l,∃ bi,cJ w bi p.2 p.1) (hl:l.map (·.1.pure)=ps) (part id:Int):
  (kt l part id=n_/\endP ps part id=n_)\/ ∃ g x,kt l part id=o_ g/\endP ps part id=o_ (aM.todS x)/\w.heap[g]? =o_ (c_ (cW x) 51):=by
 subst hl;have e1:hP (fun x:aE=>x.id) part (l.map (·.1.pure))=(l.find? (fun p=>p.1.q.id == part)).map (·.1.pure):=by
  unfold hP;rw [aeu]
  congr 2
 unfold kt endP;rw [e1];cases hf:l.find? (fun p=>p.1.q.id == part) with
 | none=>exact .inl ⟨rfl,rfl⟩
 | some q=>
  have e2:hP (fun x:dS=>x.id) id (q.1.lq.map (·.1.todS))=(q.1.lq.find? (fun p=>p.1.id == id)).map (·.1.todS):=by
   unfold hP;rw [aeu]
   congr 2
  have e3:cz (RW (fun x:aM=>x.id) q.1.lq) id=(q.1.lq.find? (fun p=>p.1.id == id)).map (·.2):=by
   unfold cz RW;rw [aeu,aeF];rfl
  simp only [J9,Option.bind_some]
  show (cz (RW (fun x:aM=>x.id) q.1.lq) id=n_/\hP (fun x:dS=>x.id) id (q.1.lq.map (·.1.todS))=n_)\/_
  rw [e3,e2];cases hg:q.1.lq.find? (fun p=>p.1.id == id) with
  | none=>exact .inl ⟨rfl,rfl⟩
  | some r=>
   obtain ⟨bs,ho⟩:=hp q (RG hf);refine .inr ⟨r.2,r.1,rfl,?_,ho.ai.box r (RG hg)⟩
   show hP (fun x:dS=>x.id) id (q.1.lq.map (·.1.todS))=_
   rw [e2,hg];rfl
def TW {α β:Type} {f:α->List β} : ∀ {l:List α},(l.flatMap f).Nodup-> ∀ {x y:α} {g:β},x∈l->y∈l->g∈f x->g∈f y->x=y
 | [],_,_,_,_,h,_,_,_=>by cases h
 | z :: r,h,x,y,g,hx,hy,h1,h2=>by
  rw [aez,Kf] at h;rcases Kt.1 hx with ex | hx'
  .rcases Kt.1 hy with ey | hy'
   .rw [ex,ey]
   .exact absurd rfl (h.2.2 g (by rw [<- ex]; exact h1) g (Rt.2 ⟨y,hy',h2⟩))
  .rcases Kt.1 hy with ey | hy'
   .exact absurd rfl (h.2.2 g (by rw [<- ey]; exact h2) g (Rt.2 ⟨x,hx',h1⟩))
   .exact TW h.2.1 hx' hy' h1 h2
def map_inj {α β:Type} {f:α->β} : ∀ {l:List α},(l.map f).Nodup-> ∀ {x y:α},x∈l->y∈l->f x=f y->x=y
 | [],_,_,_,h,_,_=>by cases h
 | z :: r,h,x,y,hx,hy,e=>by
  rw [Lt,Lp] at h;rcases Kt.1 hx with ex | hx'
  .rcases Kt.1 hy with ey | hy'
   .rw [ex,ey]
   .exact absurd (Lr.2 ⟨y,hy',by rw [<- e,ex]⟩) h.1
  .rcases Kt.1 hy with ey | hy'
   .exact absurd (Lr.2 ⟨x,hx',by rw [e,ey]⟩) h.1
   .exact map_inj h.2 hx' hy' e
def vl {α β:Type} {f:α->List β} : ∀ {l:List α},(l.flatMap f).Nodup-> ∀ {x:α},x∈l->(f x).Nodup
 | [],_,_,h=>by cases h
 | z :: r,h,x,hx=>by
  rw [aez,Kf] at h;rcases Kt.1 hx with rfl | hx
  .exact h.1
  .exact vl h.2.1 hx
def TC {part id:Int} {g:Nat} (h:kt l part id=o_ g): ∃ q∈l,q.1.q.id=part/\ ∃ x∈q.1.lq,x.2=g/\x.1.id=id:=by
 unfold kt at h;cases hf:l.find? (fun p=>p.1.q.id == part) with
 | none=>rw [hf] at h; cases h
 | some q=>
  rw [hf] at h;simp only [cz,RW,aeu,aeF,Kw] at h;obtain ⟨x,hx,e⟩:=h;exact ⟨q,RG hf,by simpa using PS hf,x,RG hx,e,by simpa using PS hx⟩
def UP (hn:(l.flatMap fun p=>p.1.lq.map (·.2)).Nodup) {p p' i i':Int} {g:Nat} (h:kt l p i=o_ g) (h':kt l p' i'=o_ g):p=p'/\i=i':=by
 obtain ⟨q,hq,rfl,x,hx,e,rfl⟩:=TC h;obtain ⟨q',hq',rfl,x',hx',e',rfl⟩:=TC h';have h1:=TW hn hq hq' (Lr.2 ⟨x,hx,e⟩) (Lr.2 ⟨x',hx',e'⟩);subst h1;have h2:=map_inj (vl hn hq) hx hx' (e.trans e'.symm);subst h2;exact ⟨rfl,rfl⟩
def VC {a:Option d_} {n c g:Nat} (h:(Value.slice a n c).ownBlock=o_ g):g∈blk a:=by
 cases a with
 | none=>simp [Value.ownBlock] at h
 | some ad=>simpa [Value.ownBlock,blk,eq_comm] using h
def U8:(Tryz.prog.info? 91).map (fun i=>(i.zero,i.size,i.bytes))=o_ (o_ (a_ #[i_ j_ 0,i_ j_ 0,i_ j_ 0,i_ j_ 0,p_ n_,p_ n_]),6,48):=by kernel_rfl
def Vc {bi:Nat} (m:gi) (ho:W.ownsRow bi 91 6 (s_ a ls.length cap) ls.length (qo.flat ls)) (hn:ls.length<=10) (hb:bi<=W.heap.size):
  ∃ a' cap' w',(Builtin.append_ #[67,67] 67 #[s_ a ls.length cap,s_ (o_ ⟨W.heap.size,0,n_⟩) 1 1]).run J3 (W.alloc (c_ (fz m) 91))= .ok (s_ a' (ls.length+1) cap') w'/\w'.ownsRow bi 91 6 (s_ a' (ls.length+1) cap') (ls.length+1) (qo.flat (ls ++ [m]))/\aI W w' (blk a):=by
 have hz:B_ W.heap.size W (W.alloc (c_ (fz m) 91)):=(Kp _ _).alloc (Ki _) _;obtain ⟨i,hi,e⟩:=Kw.1 U8;simp only [Kx] at e;have hcell: ∀ j u,(tA m)[j]? =o_ u->(W.alloc (c_ (fz m) 91)).cell? ((⟨W.heap.size,0,n_⟩:d_).add j)=o_ u:=fun j u hu=>by
  have h1:(W.alloc (c_ (fz m) 91)).heap[W.heap.size]? =o_ (c_ (fz m) 91):=Kj _ _;have h2:(fz m)[j]? =o_ u:=by rw [<- QJ]; exact hu
  exact Zbw
 obtain ⟨v',w',hr,ho',hg,-,-⟩:=abY (P:=J3) (W.alloc (c_ (fz m) 91)) bi 67 67 91 i _ 6 48 underlying67 hi e.1 e.2.1 e.2.2 rfl (by decide) (s_ a ls.length cap) ls.length (qo.flat ls) (cR ho hz) ⟨W.heap.size,0,n_⟩ 1 1 (tA m) rfl hcell (fun u hu=>by
  simp only [tA,Kt,Ku,or_false] at hu;rcases hu with rfl | rfl | rfl | rfl | rfl | rfl <;> rfl) Zb9 zw (by have:=hz.size; omega)
 obtain ⟨a',cap',rfl,-⟩:=cr ho';have aS:qo.flat (ls ++ [m])=qo.flat ls ++ tA m:=by simp [Kind.flat,qo]
 refine ⟨a',cap',w',hr,by rw [aS]; exact ho',⟨hg.os,hg.tape,hg.output,LG hz.size hg.size,fun g hgl hgn=> ?_⟩⟩;have h1:=hz.block g hgl;exact Zbx
def T1.more {a2:Option d_} {Ta:Nat} {an1:w_} {m:gi} (h:T1 w K b bj tab a cap ls W) (hK:K < w.heap.size) (ho:an1.ownsRow w.heap.size 91 6 (s_ a2 (ls.length+1) Ta) (ls.length+1) (qo.flat (ls ++ [m]))) (hk:aI W an1 (blk a)):T1 w K b bj tab a2 Ta (ls ++ [m]) (an1.setCell ⟨K,64,n_⟩ (s_ a2 (ls.length+1) Ta)):=by
 have hlow: ∀ g∈blk a,w.heap.size<=g:=fun g hg=>(cf h.own hg).1
 have hr:an1.rowIs K 69 65 (B3 bj tab b a ls.length cap):=h.TN.of_block (hk.same K h.TN.lt fun hm=>by have:=hlow K hm; omega);have h7:aI w an1 [K] :=⟨hk.os.trans h.kept.os,hk.tape.trans h.kept.tape,hk.output.trans h.kept.output,LG h.kept.size hk.size,fun g hg hn=>(hk.same g Zcs fun hm=>by have:=hlow g hm; omega).trans (h.kept.same g hg hn)⟩
 refine ⟨h7.trans (aI.set (off:=64) [_] zy),?_,?_⟩
 .rw [Lf,adg]
  refine (hr.set 64 _).congr fun j hj=> ?_
  unfold B3;by_cases e:j=64
  .subst e; simp
  .simp [e]
 .rw [Lf,adg]
  exact aL ho fun g hg=>ac5 _ _ _ _ (by have:=(cf ho hg).1; show g≠K; omega)
def Joins (l:List (aZ × Nat)) (o:gi):Prop:=kt l o.c.src o.c.ga=o_ o.s/\kt l o.c.dst o.c.hI=o_ o.t
def Joins.at (hp: ∀ p∈l,∃ bi,cJ w bi p.2 p.1) (hl:l.map (·.1.pure)=ps) {o:gi} (h:Joins l o):rl w o:=by
 rcases D3 hp hl o.c.src o.c.ga with ⟨h1,-⟩ | ⟨g,x,h1,-,hx⟩
 .rw [h.1] at h1; cases h1
 rcases D3 hp hl o.c.dst o.c.hI with ⟨h2,-⟩ | ⟨g2,y,h2,-,hy⟩
 .rw [h.2] at h2; cases h2
 have e1:=h.1.symm.trans h1;have e2:=h.2.symm.trans h2;simp only [LF] at e1 e2;rw [<- e1] at hx;rw [<- e2] at hy;exact ⟨x,y,hx,hy⟩
def Ur {α:Type} {f g:α->Bool} : ∀ {l:List α},(∀ x∈l,f x=g x)->l.any f=l.any g
 | [],_=>rfl
 | x :: r,h=>by simp only [List.any_cons]; rw [h x zy,Ur fun y hy=>h y ZcG]
def TA (hn:(l.flatMap fun p=>p.1.lq.map (·.2)).Nodup) {p p' i i':Int} {g g':Nat} (h:kt l p i=o_ g) (h':kt l p' i'=o_ g'):decide (g=g')=(decide (p'=p) && decide (i'=i)):=by
 by_cases e:g=g'
 .subst e
  obtain ⟨rfl,rfl⟩:=UP hn h h';simp
 .rw [decide_eq_false e]
  by_cases e1:p'=p
  .by_cases e2:i'=i
   .subst e1 e2
    rw [h] at h';cases h';exact absurd rfl e
   .simp [e2]
  .simp [e1]
def Ub (hn:(l.flatMap fun p=>p.1.lq.map (·.2)).Nodup) {m:gi} (hm:Joins l m) (hL: ∀ o∈ls,Joins l o):ls.any (ts m (zo ps m.c))=(ls.map (·.c)).any (hR ps m.c):=by
 rw [List.any_map];refine Ur fun o ho=> ?_
 unfold ts
 show _=hR ps m.c o.c
 unfold hR;rw [TA hn hm.2 (hL o ho).2,TA hn hm.1 (hL o ho).1]
end
def ko (ps:List aE) (ls:List gi) (c:eQ):Bool:=pa ps c && !(ls.map (·.c)).any (hR ps c)
def Vv (w:w_) (K b:Nat) (bj:Int) (tab:Array v_) (l:List (aZ × Nat)) (ps:List aE) (ls:List gi) (c:eQ) (e:Ending) (W:w_):Prop:=
 (ko ps ls c=false/\e=r_ (b_ false)/\aI w W [K])\/(ko ps ls c=true/\e=r_ (b_ true)/\ ∃ s t a cap,Joins l ⟨c,s,t⟩/\T1 w K b bj tab a cap (ls ++ [⟨c,s,t⟩]) W)
def P1 (W:w_) (X:Nat) (c:eQ):Prop:=W.heap[X]? =o_ (c_ (nx c) 37)
def P1.cells {W:w_} {X:Nat} {c:eQ} (h:P1 W X c):W.cell? ⟨X,0,n_⟩=o_ (i_ j_ c.src)/\W.cell? ⟨X,1,n_⟩=o_ (i_ j_ c.ga)/\W.cell? ⟨X,2,n_⟩=o_ (i_ j_ c.dst)/\W.cell? ⟨X,3,n_⟩=o_ (i_ j_ c.hI):=by
 unfold P1 at h;simp [World.cell?,h]
def P1.below {W W2:w_} {X:Nat} {c:eQ} (h:P1 W X c) (hb:B_ W.heap.size W W2):P1 W2 X c:=(hb.block _ (J2.1 h).1).trans h
structure LkS (w:w_) (K b:Nat) (bj:Int) (tab:Array v_) (a:Option d_) (cap:Nat) (ls:List gi) (X:Nat) (c:eQ) (W:w_):Prop where
 US:T1 w K b bj tab a cap ls W
 box:P1 W X c
def LkS.below {w W W2:w_} {K b:Nat} {bj:Int} {tab:Array v_} {a:Option d_} {cap:Nat} {ls:List gi} {X:Nat} {c:eQ} (h:LkS w K b bj tab a cap ls X c W) (hb:B_ W.heap.size W W2):LkS w K b bj tab a cap ls X c W2:=⟨h.US.below hb,h.box.below hb⟩
def Tj {W:w_} {X s t:Nat} {c:eQ} (h:W.heap[X]? =o_ (c_ (fz ⟨c,s,t⟩) 91)):W.cell? ⟨X,0,n_⟩=o_ (i_ j_ c.src)/\W.cell? ⟨X,1,n_⟩=o_ (i_ j_ c.ga)/\W.cell? ⟨X,2,n_⟩=o_ (i_ j_ c.dst)/\W.cell? ⟨X,3,n_⟩=o_ (i_ j_ c.hI)/\W.cell? ⟨X,4,n_⟩=o_ (p_ (o_ ⟨s,0,n_⟩))/\W.cell? ⟨X,5,n_⟩=o_ (p_ (o_ ⟨t,0,n_⟩)):=by
 simp [World.cell?,h]
def Vm (w:w_) (K b:Nat) (bj:Int) (tab:Array v_) (a:Option d_) (cap:Nat) (ls:List gi) (l:List (aZ × Nat)) (ps:List aE) (c:eQ) (W:w_) (hp:VK w K b l) (hl:l.map (·.1.pure)=ps) (hL: ∀ o∈ls,Joins l o) (hn:ls.length<=10) (hc:c.Wf) (hS:T1 w K b bj tab a cap ls W):
  k_ J3 64 #[p_ (o_ ⟨K,0,n_⟩),a_ (nx c)] W fun e W'=>Vv w K b bj tab l ps ls c e W':=by
 have hz:B_ W.heap.size W (W.alloc (c_ (nx c) 37)):=(Kp _ _).alloc (Ki _) _;have S:bN (LkS w K b bj tab a cap ls W.heap.size c (W.alloc (c_ (nx c) 37))):=⟨hS.below hz,Kj _ _⟩
 have HP:=aA hp;have HL:=aA (And.intro hl (And.intro hL hn));have HC:=aA hc;clear hz hS hp hl hL hn hc
 go_enter func64,ntmps64
 go_upto_region 1 with fail;generalize W.alloc (c_ (nx c) 37)=W1 at *;generalize W.heap.size=X at *;have hc1:=TP K b l c.src c.ga W1 (S.I.US.apL HP.I) HC.I.1 HC.I.2.1;obtain ⟨m0,m1,m2,m3⟩:=S.I.box.cells;go_wp2_with fail;clear m0 m1 m2 m3;refine hc1.mono ?_;clear hc1;rintro e W2 ⟨rfl,hb2⟩;replace S:=aA (S.I.below hb2);clear hb2;have hc1:=TP K b l c.dst c.hI W2 (S.I.US.apL HP.I) HC.I.2.2.1 HC.I.2.2.2;obtain ⟨m0,m1,m2,m3⟩:=S.I.box.cells;go_wp2_with fail;clear m0 m1 m2 m3;refine hc1.mono ?_;clear hc1;rintro e W3 ⟨rfl,hb2⟩;replace S:=aA (S.I.below hb2);clear hb2;have h1:=D3 (fun p hm=>((HP.I.kept S.I.US.kept).part p hm).imp fun _ h=>h.2) HL.I.1 c.src c.ga;have h2:=D3 (fun p hm=>((HP.I.kept S.I.US.kept).part p hm).imp fun _ h=>h.2) HL.I.1 c.dst c.hI;rcases h1 with ⟨h1,VF⟩ | ⟨s,x,h1,VF,hx⟩
 .have HN:bN (ko ps ls c=false):=by show _=_; simp [ko,pa,VF]
  rw [h1];clear h1 h2 VF;generalize qz (kt l c.dst c.hI)=pv;generalize (kt l c.dst c.hI).isSome=pb;simp only [qz,aeH];exact Zal
 have bC:=aA h1;rw [h1];rcases h2 with ⟨h2,h2e⟩ | ⟨t,y,h2,h2e,hy⟩
 .have HN:bN (ko ps ls c=false):=by show _=_; simp [ko,pa,VF,h2e]
  rw [h2];clear h1 h2 VF h2e hx bC;simp only [qz,dt,aeH,Qk];exact Zal
 have eb:=aA h2;rw [h2];have HB:bN (pa ps c=(!decide (c.src=c.dst) && x.I && !y.I && (x.Mf == y.Mf))):=by show _=_; simp only [pa,VF,h2e]
 have HQ:bN (zo ps c=x.Mf):=by show _=_; simp only [zo,VF]
 have Mb:=TY s t x y W3 hx hy;have UR:=aA (And.intro hx hy);clear h1 h2 VF h2e hx hy;simp only [qz,dt,Qk];obtain ⟨m0,m1,m2,m3⟩:=S.I.box.cells;by_cases hsd:c.src=c.dst
 .have HN:bN (ko ps ls c=false):=by show _=_; simp [ko,HB.I,hsd]
  have e1:(c.src == c.dst)=true:=by simp [hsd]
  clear hsd Mb;go_wp2;go_ret;exact .inl ⟨HN.I,rfl,S.I.US.kept⟩
 have e1:(c.src == c.dst)=false:=by simp [hsd]
 have HSD:bN (decide (c.src=c.dst)=false):=decide_eq_false hsd;clear hsd;go_wp2_with fail;clear m0 m1 m2 m3 e1;refine Mb.mono ?_;clear Mb;rintro e W4 ⟨rfl,hb4⟩;replace S:=aA (S.I.below hb4);replace UR:bN (W4.heap[s]? =o_ (c_ (cW x) 51)/\W4.heap[t]? =o_ (c_ (cW y) 51)):=⟨(hb4.block _ (J2.1 UR.I.1).1).trans UR.I.1,(hb4.block _ (J2.1 UR.I.2).1).trans UR.I.2⟩
 clear hb4;cases hlead:(x.I && !y.I && (x.Mf == y.Mf))
 .have HN:bN (ko ps ls c=false):=by show _=_; rw [ko,HB.I,HSD.I]; simp only [Bool.not_false,aeN,hlead,Bool.false_and]
  clear hlead;exact Zal
 have HCB:bN (pa ps c=true):=by show _=_; rw [HB.I,HSD.I]; simp only [Bool.not_false,aeN,hlead]
 clear hlead HB HSD;obtain ⟨m0,m1,m2,m3⟩:=S.I.box.cells;go_upto_region 6 with fail;clear m0 m1 m2 m3;have hz:B_ W4.heap.size W4 (W4.alloc (c_ (fz ⟨c,s,t⟩) 91)):=(Kp _ _).alloc (Ki _) _;have HY:bN ((∀ g∈blk a,g < W4.heap.size)/\(W4.alloc (c_ (fz ⟨c,s,t⟩) 91)).heap[W4.heap.size]? =o_ (c_ (fz ⟨c,s,t⟩) 91)):=⟨fun g hg=>(cf S.I.US.own hg).2,Kj _ _⟩
 replace UR:bN ((W4.alloc (c_ (fz ⟨c,s,t⟩) 91)).heap[s]? =o_ (c_ (cW x) 51)):=(hz.block _ (J2.1 UR.I.1).1).trans UR.I.1;have HW4:=aA S.I.US.kept.size;replace S:=aA (S.I.US.below hz);have HYK:bN (K < W4.heap.size):=by show K < _; have h1:=(HP.I.k); have h2:=HW4.I; omega
 clear hz HW4;generalize W4.alloc (c_ (fz ⟨c,s,t⟩) 91)=W5 at *;generalize W4.heap.size=Y at *;refine Kr (S:=fun W=>W.cell? ⟨K,64,n_⟩=o_ (s_ a ls.length cap)/\W.heap[Y]? =o_ (c_ (fz ⟨c,s,t⟩) 91)) ZbY ⟨S.I.TN.cell (i:=64) zw,HY.I.2⟩ (fun _=> ?_);replace S:=aA (S.I.below (Kp _ _).drew);replace UR:bN (W5.drew.heap[s]? =o_ (c_ (cW x) 51)):=UR.I;replace HY:bN ((∀ g∈blk a,g < Y)/\W5.drew.heap[Y]? =o_ (c_ (fz ⟨c,s,t⟩) 91)):=HY.I;generalize World.drew _=V at *;have HS:bN (V.cell? ⟨K,64,n_⟩=o_ (s_ a ls.length cap)/\V.heap[Y]? =o_ (c_ (fz ⟨c,s,t⟩) 91)):=⟨S.I.TN.cell (i:=64) zw,HY.I.2⟩
 refine tt 0 HS.I ?_;refine tt 1 HS.I ?_;refine tt 2 HS.I ?_;refine tt 3 HS.I ?_;refine tt 4 HS.I ?_ (hy:=fun w0 hS0=>by obtain ⟨q0,q1,q2,q3,q4,q5⟩:=Tj hS0.2; go_simp; try with_reducible rfl);refine tt 5 HS.I ?_;refine L7 6 (fun Q hQ=> ?_);go_wp2_with fail;have hAt:=fun p hm=>((HP.I.kept S.I.kept).part p hm).imp fun _ h=>h.2
 refine (UQ a ls cap ⟨c,s,t⟩ x V (by have:=HL.I.2.2; omega) (nP S.I.own) UR.I (Joins.at hAt HL.I.1 ⟨bC.I,eb.I⟩) (fun o ho=>Joins.at hAt HL.I.1 (HL.I.2.1 o ho))).mono ?_;clear hAt HS UR;rintro e W6 ⟨rfl,jQ⟩;replace S:=aA (S.I.below jQ);replace HY:bN ((∀ g∈blk a,g < Y)/\W6.heap[Y]? =o_ (c_ (fz ⟨c,s,t⟩) 91)):=⟨HY.I.1,(jQ.block _ (J2.1 HY.I.2).1).trans HY.I.2⟩
 clear jQ;refine hQ.out _ _ ⟨S.I.TN.cell (i:=64) zw,HY.I.2⟩ (fun _=> ?_);clear hQ Q;refine K3 ZbY ?_ _;have HM:bN (ls.any (ts ⟨c,s,t⟩ x.Mf)=(ls.map (·.c)).any (hR ps c)):=by have h:=Ub (ps:=ps) HP.I.nodup (m:=⟨c,s,t⟩) ⟨bC.I,eb.I⟩ HL.I.2.1; rw [HQ.I] at h; exact h
 generalize ls.any (ts ⟨c,s,t⟩ x.Mf)=r at *;cases r
 case true=>
  have HN:bN (ko ps ls c=false):=by show _=_; rw [ko,HCB.I,<- HM.I]; rfl
  go_wp2;go_ret;exact .inl ⟨HN.I,rfl,S.I.kept⟩
 have HT:bN (ko ps ls c=true):=by show _=_; rw [ko,HCB.I,<- HM.I]; rfl
 clear HM HCB HQ;go_upto_region 8 with fail;refine Kr (S:=fun W=>W.heap[Y]? =o_ (c_ (fz ⟨c,s,t⟩) 91)) ZbY HY.I.2 (fun _=> ?_);replace S:=aA (S.I.below (Kp _ _).drew);replace HY:bN ((∀ g∈blk a,g < Y)/\W6.drew.heap[Y]? =o_ (c_ (fz ⟨c,s,t⟩) 91)):=HY.I;generalize World.drew _=V2 at *;refine tt 0 HY.I.2 ?_;refine tt 1 HY.I.2 ?_;refine tt 2 HY.I.2 ?_;refine tt 3 HY.I.2 ?_;refine tt 5 HY.I.2 ?_ (hy:=fun w0 hS0=>by obtain ⟨q0,q1,q2,q3,q4,q5⟩:=Tj hS0; go_simp; try with_reducible rfl);obtain ⟨a2,Ta,an1,hap,mP,hk7⟩:=Vc ⟨c,s,t⟩ S.I.own HL.I.2.2 S.I.kept.size;have HA:=aA (And.intro mP hk7);clear mP hk7;have c64:V2.cell? ⟨K,64,n_⟩=o_ (s_ a ls.length cap):=S.I.TN.cell (i:=64) zw;have d64:(V2.alloc (c_ (fz ⟨c,s,t⟩) 91)).cell? ⟨K,64,n_⟩=o_ (s_ a ls.length cap):=(S.I.TN.alloc _).cell (i:=64) zw;have hY1:(V2.alloc (c_ (fz ⟨c,s,t⟩) 91)).heap[Y]? =o_ (c_ (fz ⟨c,s,t⟩) 91):=(PU (J2.1 HY.I.2).1).trans HY.I.2;have Ul:bN (K∉blk a/\Y∉blk a/\Y≠K):=⟨fun hm=>by have h1:=(cf S.I.own hm).1; have h2:=HP.I.k; omega,fun hm=>by have h1:=HY.I.1 Y hm; omega,by have:=HYK.I; omega⟩
 have HR7:bN (an1.rowIs K 69 65 (B3 bj tab b a ls.length cap)/\an1.heap[Y]? =o_ (c_ (fz ⟨c,s,t⟩) 91)):=⟨S.I.TN.of_block (HA.I.2.same K S.I.TN.lt Ul.I.1),(HA.I.2.same Y (J2.1 HY.I.2).1 Ul.I.2.1).trans HY.I.2⟩
 have HE:bN (∀ W,W=an1.setCell ⟨K,64,n_⟩ (s_ a2 (ls.length+1) Ta)->T1 w K b bj tab a2 Ta (ls ++ [⟨c,s,t⟩]) W):=fun W hW=>by rw [hW]; exact S.I.more HP.I.k HA.I.1 HA.I.2
 refine KW (rs:= [4,6]) ZbY zy ?_;refine KX rfl (fun Q hQ=> ?_) (KX rfl (fun Q hQ=> ?_) KY)
 focus
  simp only [KZ,K0,K1];rw [if_pos (by rfl)];go_wp2_with fail;refine hQ.out _ _ HY.I.2 (fun _=> ?_);clear hQ Q
  try simp only [pt,sb,s0,s1]
  refine L7 6 (fun Q hQ=> ?_);go_wp2_with fail;refine hQ.out _ _ hY1 (fun _=> ?_);clear hQ Q
  try simp only [pt,sb,s0,s1]
 rotate_left
 focus
  simp only [KZ,K0,K1];rw [if_pos (by rfl)];go_wp2_with fail;refine hQ.out _ _ hY1 (fun _=> ?_);clear hQ Q
  try simp only [pt,sb,s0,s1]
  refine L7 4 (fun Q hQ=> ?_);go_wp2_with fail;refine hQ.out _ _ hY1 (fun _=> ?_);clear hQ Q
  try simp only [pt,sb,s0,s1]
 all_goals
  refine L7 7 (fun Q hQ=> ?_);refine cM _ _ _ rfl _ _ _ an1 rfl rfl hap ?_;refine hQ.out _ _ HR7.I.2 (fun _=> ?_);clear hQ Q
  try simp only [pt,sb,s0,s1]
  refine tt 8 HR7.I.2 ?_;refine tt 9 HR7.I.2 ?_;refine L7 10 (fun Q hQ=> ?_);have k64:=HR7.I.1.cell (i:=64) zw;have f64:=HR7.I.1.frozen 64;go_wp2_with fail;refine hQ.out _ _ ((ac5 _ _ _ _ Ul.I.2.2).trans HR7.I.2) (fun _=> ?_);clear hQ Q k64 f64;refine K3 ZbY ?_ _;go_wp2;go_ret;exact .inr ⟨HT.I,rfl,s,t,a2,Ta,⟨bC.I,eb.I⟩,HE.I _ rfl⟩
def UW (w:w_) (K b:Nat) (bj:Int) (tab:Array v_) (l:List (aZ × Nat)) (ps:List aE) (cs:List eQ) (e:Ending) (W:w_):Prop:=
 aI w W [K] /\(((decide (cs.length<=10) && fA ps [] cs)=false/\e=r_ (b_ false))\/((decide (cs.length<=10) && fA ps [] cs)=true/\e=r_ (b_ true)/\ ∃ ls a cap,ls.map (·.c)=cs/\(∀ o∈ls,Joins l o)/\T1 w K b bj tab a cap ls W))
def T3 (w0 w:w_) (K b:Nat) (bj:Int) (tab:Array v_) (l:List (aZ × Nat)) (ps:List aE) (cs:List eQ) (a:Option d_) (cap:Nat) (hp:VK w K b l) (hl:l.map (·.1.pure)=ps) (hk:w.rowIs K 69 65 (B3 bj tab b n_ 0 0)) (hb:B_ w0.heap.size w0 w) (hK:w0.heap.size<=K) (hc:hM.bU w0 a cs) (hw: ∀ c∈cs,c.Wf) (hn:cs.length<=1048576):
  k_ J3 36 #[p_ (o_ ⟨K,0,n_⟩),s_ a cs.length cap] w fun e W=>UW w K b bj tab l ps cs e W:=by
 have S:bN (T1 w K b bj tab n_ 0 [] w):=⟨aI.refl _ _,hk,Ke _ _ _ _⟩
 have HP:=aA (And.intro hp (And.intro hl (And.intro hb (And.intro hK (And.intro hc hw)))));clear hp hl hk hb hK hc hw
 go_enter func36,ntmps36
 by_cases h10:10 < cs.length
 .have i1:(10:Int) < (cs.length:Int):=zw
  have HN:bN ((decide (cs.length<=10) && fA ps [] cs)=false):=by show _=_; rw [decide_eq_false zw]; rfl
  clear h10;go_wp2;go_ret;exact ⟨S.I.kept,.inl ⟨HN.I,rfl⟩⟩
 have i1: ¬ (10:Int) < (cs.length:Int):=zw
 have eX:bN (cs.length<=10):=by show _<=_; omega
 clear h10;go_wp2_with fail;clear i1
 go_loopw [12] (fun i wr=> ∃ (n:Nat) (ls:List gi) (a2:Option d_) (Ta:Nat),n<=cs.length/\i=i_ j_ n/\bN (T1 w K b bj tab a2 Ta ls wr/\ls.map (·.c)=cs.take n/\(∀ o∈ls,Joins l o)/\fA ps [] (cs.take n)=true)) (fun i _=>cs.length - (Go.RowKit.intOf i).toNat)
 case atStart=>exact ⟨0,[],n_,0,Ky _,rfl,S.I,rfl,(fun o ho=>by cases ho),rfl⟩
 case round=>
  clear S;obtain ⟨n,ls,a2,Ta,hn2,rfl,S⟩:=hrel;by_cases hlt:n < cs.length
  .have i0:(0:Int)<=(n:Int):=zw
   have i1:(n:Int) < (cs.length:Int):=zw
   obtain ⟨c,hc⟩: ∃ c,cs[n]? =o_ c:=⟨_,Kz hlt⟩
   have DM:bN (ls.length<=10):=by show ls.length<=10; have h:=congrArg List.length S.I.2.1; simp at h; have:=eX.I; omega
   have hbl:B_ w0.heap.size w0 wr:=HP.I.2.2.1.trans (S.I.1.kept.below (by have h1:=HP.I.2.2.1.size; omega) (fun g hg=>by rw [KB.1 hg]; exact HP.I.2.2.2.1));obtain ⟨gs,rfl,c0,c1,c2,c3⟩:=TH (HP.I.2.2.2.2.1.below hbl) hc;have HC:=aA hc;clear hbl hc;go_upto_region 6 with fail;clear c0 c1 c2 c3;have hz:B_ wr.heap.size wr (wr.alloc (c_ (nx c) 37)):=(Kp _ _).alloc (Ki _) _;have Uc:bN (P1 (wr.alloc (c_ (nx c) 37)) wr.heap.size c):=Kj _ _;have mO:=aA S.I.2;replace S:=aA (S.I.1.below hz);clear hz;generalize wr.alloc (c_ (nx c) 37)=W1 at *;generalize wr.heap.size=X at *;have Mb:=Vm w K b bj tab a2 Ta ls l ps c W1 HP.I.1 HP.I.2.1 mO.I.2.1 DM.I (HP.I.2.2.2.2.2 c (KA HC.I)) S.I;obtain ⟨m0,m1,m2,m3⟩:=Uc.I.cells;go_wp2_with fail;clear m0 m1 m2 m3 Uc;refine Mb.mono ?_;clear Mb S;rintro e W2 (⟨hno,rfl,hk2⟩ | ⟨fm,rfl,s,t,a3,UY,hj,hk3⟩)
   .have HE:bN (aI w W2 [K] /\(decide (cs.length<=10) && fA ps [] cs)=false):=⟨hk2,by
     rw [kq HC.I,PP];simp only [ko,Bool.and_eq_false_iff,Bool.not_eq_false',mO.I.1] at hno;exact hno⟩
    clear hno hk2;go_wp2;go_ret;exact ⟨HE.I.1,.inl ⟨HE.I.2,rfl⟩⟩
   .have HE:bN (T1 w K b bj tab a3 UY (ls ++ [⟨c,s,t⟩]) W2/\(ls ++ [(⟨c,s,t⟩:gi)]).map (·.c)=cs.take (n+1)/\(∀ o∈ls ++ [(⟨c,s,t⟩:gi)],Joins l o)/\fA ps [] (cs.take (n+1))=true):=by
     refine ⟨hk3,by rw [cj HC.I,Kl,mO.I.1]; rfl,fun o ho=> ?_,?_⟩
     .rcases Kg.1 ho with ho | ho
      .exact mO.I.2.1 o ho
      .rw [KB.1 ho]; exact hj
     .simp only [ko,J7,PR,mO.I.1] at fm
      exact Tz mO.I.2.2 HC.I fm.1 fm.2
    clear fm hj hk3;go_wp2;go_roundw
    case rel=>exact ⟨n+1,ls ++ [⟨c,s,t⟩],a3,UY,zw,by go_num,HE.I.1,HE.I.2⟩
    case measure=>simp [Go.RowKit.intOf]; omega
  .have i1: ¬ (n:Int) < (cs.length:Int):=zw
   go_wp2;go_ret;have h:=S.I;rw [KF zw] at h;exact ⟨h.1.kept,.inr ⟨by rw [decide_eq_true eX.I,h.2.2.2]; rfl,rfl,ls,a2,Ta,h.2.1,h.2.2.1,h.1⟩⟩
end
section
open Go.Maps
attribute [local go_sem] Oper.semAt_some
attribute [local go_sem ↓] Kc Kd
def aad {t e:T_} {size bytes:Nat} {zs:Array v_} (ht:Tryz.prog.underlying t=o_ (.slice e)) (hi:(Tryz.prog.info? e).map (fun i=>(i.zero,i.size,i.bytes))=o_ (o_ (a_ zs),size,bytes)) (hz:zs.size=size) (hs:0 < size) (hby:bytes<=1000) {W:w_} {bi k cap:Nat} {a:Option d_} {xs:List v_} (vs:Array v_) (hv:vs.size=size) (h1: ∀ u∈vs.toList,u.oneCell'=true)
  (ho:W.ownsRow bi e size (s_ a k cap) k xs) (hn:k<=1048576) (hb:bi<=W.heap.size):
  ∃ a' cap' w',(Builtin.append_ #[t,t] t #[s_ a k cap,s_ (o_ ⟨W.heap.size,0,n_⟩) 1 1]).run J3 (W.alloc (c_ vs e))= .ok (s_ a' (k+1) cap') w'/\w'.ownsRow bi e size (s_ a' (k+1) cap') (k+1) (xs ++ vs.toList)/\aI W w' (blk a)/\ ∀ g∈blk a',g∈blk a\/W.heap.size<=g:=by
 have hzb:B_ W.heap.size W (W.alloc (c_ vs e)):=(Kp _ _).alloc (Ki _) _;obtain ⟨i,hi,eq⟩:=Kw.1 hi;simp only [Kx] at eq;have hcell: ∀ j u,vs.toList[j]? =o_ u->(W.alloc (c_ vs e)).cell? ((⟨W.heap.size,0,n_⟩:d_).add j)=o_ u:=fun j u hu=>by
  have h1:(W.alloc (c_ vs e)).heap[W.heap.size]? =o_ (c_ vs e):=Kj _ _;have h2:vs[j]? =o_ u:=by rw [<- QJ]; exact hu
  exact Zbw
 obtain ⟨v',w',hr,ho',hg,-,hbl⟩:=abY (P:=J3) (W.alloc (c_ vs e)) bi t t e i _ size bytes ht hi eq.1 eq.2.1 eq.2.2 hz hs (s_ a k cap) k xs (cR ho hzb) ⟨W.heap.size,0,n_⟩ 1 1 vs.toList (by simp [hv]) hcell h1 Zb9 (by have:=Nat.mul_le_mul (Nat.add_le_add_right hn 1) hby; omega) (by have:=hzb.size; omega);obtain ⟨a',cap',rfl,-⟩:=cr ho';refine ⟨a',cap',w',hr,ho',⟨hg.os,hg.tape,hg.output,LG hzb.size hg.size,fun g hgl hgn=> ?_⟩,fun g hm=> ?_⟩
 .have h1:=hzb.block g hgl
  rw [<- h1];exact hg.block g (by have:=hzb.size; omega) fun e=>hgn (VC e.symm)
 .have hm2:(Value.slice a' (k+1) cap').ownBlock=o_ g:=by
   exact Zbj
  exact ZaY
def Zr (Z:Nat->Int):Nat->List v_
 | 0=> []
 | k+1=>Zr Z k ++ [i_ j_ (Z (k * 3)),i_ j_ (Z (k * 3+1)),i_ j_ (Z (k * 3+2))]
def aag (w:w_) (Z:Nat->Int) (k:Nat) (X:w_):Prop:= ∃ (a:Option d_) (cap:Nat),X.heap[w.heap.size]? =o_ (c_ #[s_ a k cap] 24)/\X.ownsRow (w.heap.size+1) 62 3 (s_ a k cap) k (Zr Z k)/\B_ w.heap.size w X/\w.heap.size < X.heap.size
def aag.alloc {w X:w_} {Z:Nat->Int} {k:Nat} (h:aag w Z k X) (o:Obj):aag w Z k (X.alloc o):=by
 obtain ⟨a,cap,h1,h2,h3,h4⟩:=h;exact ⟨a,cap,(PU h4).trans h1,h2.alloc o,h3.alloc h3.size _,by simp; omega⟩
def aag.put {w X:w_} {Z:Nat->Int} {k l:Nat} {r:Loop} (h:aag w Z k X) (o:Obj) (hl:w.heap.size<=l) (hr:X.heap[l]? =o_ (.loop r)):aag w Z k (X.putObj l o):=by
 obtain ⟨a,cap,h1,h2,h3,h4⟩:=h;refine ⟨a,cap,(adX (fun e=>by subst e; rw [hr] at h1; cases h1)).trans h1,aL h2 fun g hg=>adX (fun e=> ?_),h3.trans (Zh hl o),by simpa using h4⟩;subst e;rcases h2.2 with ⟨e9,-⟩ | ⟨g9,c9,cur,e9,-,hgr,-⟩
 .cases e9; simp [blk] at hg
 .cases e9
  simp only [blk,J9,Option.toList_some,KB] at hg;rw [<- hg,hr] at hgr;cases hgr
end
section
open Go.Maps
attribute [local go_sem ↓] Kc Kd

end
section
open Go.Maps
structure YR (B lo:Nat) (I:List af) (a:Option d_) (cap:Nat) (W:w_):Prop where
 own:W.ownsRow B 46 8 (s_ a I.length cap) I.length (kp.flat I)
 mine: ∀ p∈I,ap W lo p
 nodup:(blk a ++ I.flatMap af.Mc).Nodup
section
variable {B lo cap:Nat} {I:List af} {a:Option d_} {W W1 W2:w_} {r:af}
def YR.start (B lo:Nat) (W:w_):YR B lo [] n_ 0 W:=⟨Ke _ _ _ _,fun p hp=>(by cases hp),by simp [blk]⟩
def YR.below (h:YR B lo I a cap W) (hb:B_ W.heap.size W W1):YR B lo I a cap W1:=⟨cR h.own hb,fun p hp=>(h.mine p hp).below hb,h.nodup⟩
def YR.lt (h:YR B lo I a cap W): ∀ g∈blk a ++ I.flatMap af.Mc,g < W.heap.size:=fun g hg=>by
 rcases Kg.1 hg with hg | hg
 .exact (cf h.own hg).2
 .obtain ⟨p,hp,l9⟩:=Rt.1 hg
  exact ((h.mine p hp).lt g l9).2
def YR.same (h:YR B lo I a cap W) (hs: ∀ g∈blk a ++ I.flatMap af.Mc,W1.heap[g]? =W.heap[g]?):YR B lo I a cap W1:=
 ⟨aL h.own fun g hg=>hs g (Lz _ hg),fun p hp=>(h.mine p hp).same fun g hg=>hs g (Ly _ (Rt.2 ⟨p,hp,hg⟩)),h.nodup⟩
def YR.more {a2:Option d_} {Ta:Nat} (h:YR B lo I a cap W) (hr:ap W lo r) (hf: ∀ g∈r.Mc,g∉blk a ++ I.flatMap af.Mc) (ho:W2.ownsRow B 46 8 (s_ a2 (I.length+1) Ta) (I.length+1) (kp.flat I ++ r.cells.toList)) (hk:aI W W2 (blk a)) (hb: ∀ g∈blk a2,g∈blk a\/W.heap.size<=g):YR B lo (I ++ [r]) a2 Ta W2:=by
 have hn:=Kf.1 h.nodup;have aS:kp.flat (I ++ [r])=kp.flat I ++ r.cells.toList:=by simp [Kind.flat,kp,UU]
 refine ⟨by rw [Lf,adg,aS]; exact ho,fun p hp=> ?_,?_⟩
 .have hm:ap W lo p/\ ∀ g∈p.Mc,g∉blk a:=by
   rcases Kg.1 hp with hp | hp
   .exact ⟨h.mine p hp,fun g hg hm=>hn.2.2 g hm g (Rt.2 ⟨p,hp,hg⟩) rfl⟩
   .rw [KB.1 hp]
    exact ⟨hr,fun g hg hm=>hf g hg (Lz _ hm)⟩
  exact hm.1.same fun g hg=>hk.same g (hm.1.lt g hg).2 (hm.2 g hg)
 .rw [aej]
  have e: [r].flatMap af.Mc=r.Mc:=by simp
  rw [e];refine Kf.2 ⟨?_,Kf.2 ⟨hn.2.1,hr.nodup,fun g hg g' hg' e=>hf g' hg' (Ly _ (by rw [<- e]; exact hg))⟩,fun g hg g' hg' e=> ?_⟩
  .cases a2 with
   | none=>simp [blk]
   | some ad=>simp [blk]
  .subst e
   have hlt:g < W.heap.size/\g∉blk a:=by
    rcases Kg.1 hg' with hg' | hg'
    .exact ⟨h.lt g (Ly _ hg'),fun hm=>hn.2.2 g hm g hg' rfl⟩
    .exact ⟨(hr.lt g hg').2,fun hm=>hf g hg' (Lz _ hm)⟩
   rcases hb g hg with h5 | h5
   .exact hlt.2 h5
   .omega
end
def aas:(Tryz.prog.info? 46).map (fun i=>(i.zero,i.size,i.bytes))=o_ (o_ (a_ ar),8,160):=by kernel_rfl
def aaw {B lo cap:Nat} {I:List af} {a:Option d_} {W:w_} {r:af} (h:YR B lo I a cap W) (hr:ap W lo r) (hf: ∀ g∈r.Mc,g∉blk a ++ I.flatMap af.Mc) (hn:I.length<=1048576) (hb:B<=W.heap.size):
  ∃ a' cap' w',(Builtin.append_ #[27,27] 27 #[s_ a I.length cap,s_ (o_ ⟨W.heap.size,0,n_⟩) 1 1]).run J3 (W.alloc (c_ r.cells 46))= .ok (s_ a' (I.length+1) cap') w'/\YR B lo (I ++ [r]) a' cap' w'/\aI W w' (blk a)/\ ∀ g∈blk a',g∈blk a\/W.heap.size<=g:=by
 obtain ⟨a',cap',w',h1,h2,h3,h4⟩:=aad underlying27 aas rfl (by decide) (by decide) r.cells rfl (fun u hu=>by
  simp only [af.cells,Kt,Ku,or_false] at hu;rcases hu with rfl | rfl | rfl | rfl | rfl | rfl | rfl | rfl <;> rfl) h.own hn hb
 exact ⟨a',cap',w',h1,h.more hr hf h2 h3 h4,h3,h4⟩
end
section
open Go.Maps
attribute [local go_sem ↓] Kc Kd
abbrev Xn (l:List Int):List v_:=l.map (Value.int j_)
def XX {w:w_} {a:Option d_} {l:List Int} (h:Row w a (Xn l)) {i:Nat} {z:Int} (hz:l[i]? =o_ z): ∃ g,a=o_ ⟨g,0,n_⟩/\w.cell? ⟨g,i,n_⟩=o_ (i_ j_ z):=h i (i_ j_ z) ZcX
def Xq (a:Option d_) (l:List Int) (cap:Nat) (n:Int) (w:w_) (hl:l.length<=1048576) (hr:Row w a (Xn l)):
  k_ J3 30 #[s_ a l.length cap,i_ j_ n] w fun e w'=>e=r_ (b_ (decide (n∈l)))/\B_ w.heap.size w w':=by
 have H:=aA hr;clear hr
 go_enter func30,ntmps30
 go_wp2_with fail
 go_loopw [5] (fun i wr=> ∃ k:Nat,k<=l.length/\i=i_ j_ k/\wr=w/\bN (n∉l.take k)) (fun i _=>l.length - (Go.RowKit.intOf i).toNat)
 case atStart=>exact ⟨0,Ky _,rfl,rfl,by show n∉_; simp⟩
 case round=>
  obtain ⟨k,hk,rfl,rfl,S⟩:=hrel;by_cases hlt:k < l.length
  .have i0:(0:Int)<=(k:Int):=zw
   have i1:(k:Int) < (l.length:Int):=zw
   obtain ⟨z,hz⟩: ∃ z,l[k]? =o_ z:=⟨_,Kz hlt⟩
   obtain ⟨g,rfl,c0⟩:=XX H.I hz;have HZ:=aA hz;clear hz;by_cases e:z=n
   .have e1:(z == n)=true:=by simp [e]
    have HE:bN (n∈l):=by show n∈l; rw [<- e]; exact KA HZ.I
    clear e;go_wp2;go_ret;exact ⟨al (decide_eq_true HE.I).symm,Kp _ _⟩
   .have e1:(z == n)=false:=by simp [e]
    have HE:bN (n∉l.take (k+1)):=by show n∉_; rw [cj HZ.I]; simp only [Kg,KB,not_or]; exact ⟨S.I,fun h=>e h.symm⟩
    clear e;go_wp2;go_roundw
    case rel=>exact ⟨k+1,zw,by go_num,trivial,HE.I⟩
    case measure=>simp [Go.RowKit.intOf]; omega
  .have i1: ¬ (k:Int) < (l.length:Int):=zw
   go_wp2;go_ret;have h:=S.I;rw [KF zw] at h;exact ⟨al (decide_eq_false h).symm,Kp _ _⟩
def Yb (a:Option d_) (l:List Int) (cap:Nat) (n:Int) (w:w_) (hl:l.length<=1048576) (hr:Row w a (Xn l)):
  k_ J3 83 #[s_ a l.length cap,i_ j_ n] w fun e w'=>e=r_ (i_ j_ (M2 (fun z=>decide (z=n)) l))/\w'=w:=by
 have H:=aA hr;clear hr
 go_enter func83,ntmps83
 go_wp2_with fail
 go_loopw [8] (fun i wr=> ∃ k:Nat,k<=l.length/\i=i_ j_ k/\wr=w/\bN (∀ y∈l.take k,decide (y=n)=false)) (fun i _=>l.length - (Go.RowKit.intOf i).toNat)
 case atStart=>exact ⟨0,Ky _,rfl,rfl,fun y hy=>by simp at hy⟩
 case round=>
  obtain ⟨k,hk,rfl,rfl,S⟩:=hrel;by_cases hlt:k < l.length
  .have i0:(0:Int)<=(k:Int):=zw
   have i1:(k:Int) < (l.length:Int):=zw
   obtain ⟨z,hz⟩: ∃ z,l[k]? =o_ z:=⟨_,Kz hlt⟩
   obtain ⟨g,rfl,c0⟩:=XX H.I hz;have HZ:=aA hz;clear hz;by_cases e:z=n
   .have e1:(n == z)=true:=by simp [e]
    have HE:bN (decide (z=n)=true):=decide_eq_true e;clear e;go_wp2;go_ret;exact ⟨by rw [Us HZ.I HE.I S.I]; rfl,rfl⟩
   .have e1:(n == z)=false:=by simp [Ne.symm e]
    have HE:bN (decide (z=n)=false):=decide_eq_false e;clear e;go_wp2;go_roundw
    case rel=>
     refine ⟨k+1,zw,by go_num,trivial,fun y hy=> ?_⟩;rw [cj HZ.I] at hy;rcases Kg.1 hy with hy | hy
     .exact S.I y hy
     .rw [KB.1 hy]; exact HE.I
    case measure=>simp [Go.RowKit.intOf]; omega
  .have i1: ¬ (k:Int) < (l.length:Int):=zw
   go_wp2;go_ret;have h:=S.I;rw [KF zw] at h;exact ⟨by rw [Vj h]; rfl,rfl⟩
def Yg (a:Option d_) (l:List Int) (cap:Nat) (n:Int) (w:w_) (hl:l.length<=1048576) (hr:Row w a (Xn l)):
  k_ J3 53 #[s_ a l.length cap,i_ j_ n] w fun e w'=>e=r_ (b_ (decide (n∈l)))/\w'=w:=by
 have Mb:=Yb a l cap n w hl hr;have HA:bN (decide (0<=M2 (fun z=>decide (z=n)) l)=decide (n∈l)):=by
  show _=_
  rw [Uv];by_cases h:n∈l
  .rw [decide_eq_true h]; exact List.any_eq_true.2 ⟨n,h,by simp⟩
  .rw [decide_eq_false h]; exact List.any_eq_false.2 fun z hz=>by simp; exact fun e=>h (by rw [<- e]; exact hz)
 clear hr hl;generalize M2 (fun z=>decide (z=n)) l=i at *;generalize decide (n∈l)=r at *
 go_enter func53,ntmps53
 go_wp2_with fail;refine Mb.mono ?_;clear Mb;rintro e W1 ⟨rfl,rfl⟩;go_wp2;go_ret;exact ⟨al HA.I,rfl⟩
def Yv:(Tryz.prog.info? 2).map (fun i=>(i.zero,i.size,i.bytes))=o_ (o_ (i_ j_ 0),1,8):=by kernel_rfl
def XB {W:w_} {bi cap:Nat} {a:Option d_} {l:List Int} (z:Int) (ho:W.ownsRow bi 2 1 (s_ a l.length cap) l.length (Xn l)) (hn:l.length<=1000) (hb:bi<=W.heap.size):
  ∃ a' cap' w',(Builtin.append_ #[53,53] 53 #[s_ a l.length cap,s_ (o_ ⟨W.heap.size,0,n_⟩) 1 1]).run J3 (W.alloc (c_ #[i_ j_ z] 2))= .ok (s_ a' (l.length+1) cap') w'/\w'.ownsRow bi 2 1 (s_ a' (l.length+1) cap') (l.length+1) (Xn (l ++ [z]))/\aI W w' (blk a)/\ ∀ g∈blk a',g∈blk a\/W.heap.size<=g:=by
 have hz:B_ W.heap.size W (W.alloc (c_ #[i_ j_ z] 2)):=(Kp _ _).alloc (Ki _) _;obtain ⟨i,hi,e⟩:=Kw.1 Yv;simp only [Kx] at e;have hcell: ∀ j u,[Value.int j_ z][j]? =o_ u->(W.alloc (c_ #[i_ j_ z] 2)).cell? ((⟨W.heap.size,0,n_⟩:d_).add j)=o_ u:=fun j u hu=>by
  have h1:(W.alloc (c_ #[i_ j_ z] 2)).heap[W.heap.size]? =o_ (c_ #[i_ j_ z] 2):=Kj _ _;have h2:(#[Value.int j_ z] :Array v_)[j]? =o_ u:=by rw [<- QJ]; exact hu
  exact Zbw
 obtain ⟨v',w',hr,ho',hg,-,hbl⟩:=abY (P:=J3) (W.alloc (c_ #[i_ j_ z] 2)) bi 53 53 2 i _ 1 8 underlying53 hi e.1 e.2.1 e.2.2 rfl (by decide) (s_ a l.length cap) l.length (Xn l) (cR ho hz) ⟨W.heap.size,0,n_⟩ 1 1 [i_ j_ z] rfl hcell (fun u hu=>by
  simp only [Kt,Ku,or_false] at hu;rw [hu]; rfl) Zb9 zw (by have:=hz.size; omega)
 obtain ⟨a',cap',rfl,-⟩:=cr ho';have aS:Xn (l ++ [z])=Xn l ++ [i_ j_ z] :=by simp
 refine ⟨a',cap',w',hr,by rw [aS]; exact ho',⟨hg.os,hg.tape,hg.output,LG hz.size hg.size,fun g hgl hgn=> ?_⟩,fun g hm=> ?_⟩
 .have h1:=hz.block g hgl
  exact Zbx
 .have hm2:(Value.slice a' (l.length+1) cap').ownBlock=o_ g:=by
   exact Zbj
  exact ZaY
structure kd.Small (k:kd):Prop where
 Ts:k.fn.length<=1048576
 sC:k.parts.length<=1048576
 w8:k.eC.length<=1048576
 win: ∀ j,-9223372036854775808<=sz k.fn j/\sz k.fn j<=9223372036854775807
 parts: ∀ p∈k.parts,p.Small
 eC: ∀ c∈k.eC,c.Wf
def pC {k:eA} (h:k.pure.Small) {p:af} (hp:p∈k.parts):p.pure.Small:=h.parts p.pure (Lr.2 ⟨p,hp,rfl⟩)
def Ug {k:eA} (h:k.pure.Small):k.Fit:=
 ⟨h.Ts,by simpa [eA.pure] using h.sC,h.w8,h.win,fun p hp=>⟨dV (pC h hp),fun x hx=>(cY (pC h hp) hx).1⟩⟩
def Vz {w:w_} {p:af} (h:af.At w p): ∀ r∈il p,Row w r.1 r.2:=fun r hr=>by
 simp only [il,Kg,Rt,Kt,Ku,or_false] at hr;rcases hr with ((hr | ⟨x,hx,hr⟩) | ⟨x,hx,hr⟩) | ⟨x,hx,hr⟩
 .rcases hr with rfl | rfl | rfl | rfl | rfl | rfl
  .exact h.1.1
  .exact h.2.1.1
  .exact h.2.2.1.1
  .exact h.2.2.2.1.1
  .exact h.2.2.2.2.1.1
  .exact h.2.2.2.2.2.1
 .exact h.1.2 x hx r hr
 .exact h.2.2.2.2.1.2 x hx r hr
 .exact h.2.2.2.2.2.2 x hx r hr
def gp.at {w:w_} {bi:Nat} {k:eA} (h:gp w bi k):eA.At w k:=
 ⟨⟨nP h.fn,fun x _ r hr=>by simp [jq] at hr⟩,⟨nP h.parts,fun p hp=>Vz (h.mine p hp).at⟩,⟨nP h.eC,fun x _ r hr=>by simp [hM] at hr⟩⟩
def gp.below {w w':w_} {bi:Nat} {k:eA} (h:gp w bi k) (hb:B_ w.heap.size w w'):gp w' bi k:=
 ⟨cR h.fn hb,cR h.parts hb,cR h.eC hb,fun p hp=>(h.mine p hp).below hb,h.nodup⟩
def Tp: ∀ (l:List aE) (last:Int),aw (·.id) bK last l=true->last<=6->(l.length:Int)<=6 - last
 | [],_,_,h=>by simp; omega
 | x :: r,last,h,hl=>by
  simp only [aw,J7,decide_eq_true_eq] at h;have h1:=((ch _).1 h.1.2).id;rw [bz] at h1;have h2:=Tp r x.id h.2 zw;have h3:=h.1.1.2;simp only [List.length_cons,Int.natCast_add,Int.natCast_one];omega
def Sl {ops:Array Oper} {rest:List Oper} {op:Oper} {a:Act} {w:w_} {Q:Exit->Act->w_->Prop} (hgd:op.guard=n_) (x y z:Operand) (ho:op.op= .build 69 #[(0,x),(1,y),(2,z)])
  (m:Int) (T:Array v_) (b:Nat) (cs:Array v_) (hx:a.eval x=i_ j_ m) (hy:a.eval y=a_ T) (hz:a.eval z= .map (o_ b)) (hb:Tryz.prog.built 69 [(0,i_ j_ m),(1,a_ T),(2,.map (o_ b))] =o_ cs)
  (h:wpList J3 ops Q rest (a.put op.dst (a_ cs)) w):wpList J3 ops Q (op :: rest) a w:=
 wpList_plain hgd fun _ hK=>by
  unfold Oper.wp execOp;simp only [ho,QR,List.map_toArray,Lt,QV,hx,hy,hz,run_build w _ _ cs hb,Result.andThen_ok];exact hK _ _ h
structure VL (w:w_) (k:kd) (K:Nat) (W:w_):Prop where
 ex: ∃ (w1:w_) (b:Nat) (tab:Array v_) (l:List (aZ × Nat)) (ls:List gi) (a:Option d_) (cap:Nat),P2 k.major k.fn.length (sz k.fn) tab/\VK w1 K b l/\l.map (·.1.pure)=k.parts/\ls.map (·.c)=k.eC/\(∀ o∈ls,Joins l o)/\T1 w1 K b k.bj tab a cap ls W/\w.heap.size<=b/\w.heap.size<=K
def KerEnd (w:w_) (k:kd) (e:Ending) (W:w_):Prop:=B_ w.heap.size w W/\((eP k=false/\e=r_ (u_ #[p_ n_,b_ false]))\/(eP k=true/\ ∃ K,e=r_ (u_ #[p_ (o_ ⟨K,0,n_⟩),b_ true])/\VL w k K W))
def Pq (k:eA) (g:Nat) (w:w_) (hs:k.pure.Small) (hat:eA.At w k) (hgood: ∀ p∈k.parts,p.Good w) (hg:k.vb=o_ ⟨g,0,n_⟩/\g < w.heap.size):
  k_ J3 18 #[a_ k.row] w fun e W=>KerEnd w k.pure e W:=by
 have S:bN (dr w w.heap.size k (w.alloc (c_ k.row 30))):=dr.first hat;have HS:=aA (And.intro hs (And.intro hgood hg));clear hs hat hgood;obtain ⟨T0,hT0⟩: ∃ T,tx=T:=⟨_,rfl⟩
 have Hz:bN (tx=T0/\T0.size=62):=⟨hT0,by rw [<- hT0]; exact ub⟩
 clear hT0
 go_enter func18,ntmps18
 go_upto_region 1 with fail;generalize w.alloc (c_ k.row 30)=W0 at *;generalize hX:w.heap.size=X at *;have HX:=aA hX;clear hX;obtain ⟨m0,m1,m2,m3,m4⟩:=S.I.box.cells;rw [HS.I.2.2.1] at m2;have Mb:=TV k.major g k.fn.length k.Te (sz k.fn) W0 HS.I.1.Ts HS.I.1.win (Uq (by have:=S.I.low.size; have:=HS.I.2.2.2; have:=HX.I; omega) (by have h:=S.I.MT.fn; rwa [HS.I.2.2.1] at h));clear hg;go_wp2_with fail;clear m0 m1 m2 m3 m4;refine Mb.mono ?_;clear Mb;intro e W1 hE;obtain ⟨T,r,rfl,HT,hb1⟩: ∃ T r,e=r_ (u_ #[a_ T,b_ r])/\bN (T.size=62/\T.all (·.oneCell')=true/\E4 k.major k.fn=r/\(r=true->P2 k.major k.fn.length (sz k.fn) T))/\B_ W0.heap.size W0 W1:=by
  obtain ⟨⟨hf,cs,rfl,hc⟩ | ⟨hf,rfl⟩,hb⟩:=hE
  .exact ⟨cs,true,rfl,⟨hc.1,hc.one,hf,fun _=>hc⟩,hb⟩
  .exact ⟨tx,false,rfl,⟨ub,Tn,hf,fun h=>by cases h⟩,hb⟩
 replace S:=aA (S.I.below hb1);clear hE hb1;go_upto_region 2 with (first | (refine gq rfl rfl W1.heap.size rfl T0 Hz.I.1 ?_) | (refine fC rfl (.tmp 4) (.tmp 11) rfl W1.heap.size T (by rfl) (by rfl) T0 (by exact Kj _ _) Hz.I.2 HT.I.1 HT.I.2.1 ?_; rw [World.setRow_alloc_new]));have hz:B_ W1.heap.size W1 (W1.alloc (c_ T 65)):=(Kp _ _).alloc (Ki _) _;have HTB:bN ((W1.alloc (c_ T 65)).heap[W1.heap.size]? =o_ (c_ T 65)):=Kj _ _;replace S:=aA (S.I.below hz);clear hz Hz;generalize W1.alloc (c_ T 65)=W2 at *;generalize W1.heap.size=Y at *;obtain ⟨m0,m1,m2,m3,m4⟩:=S.I.box.cells;have Ul:bN (eP k.pure=(cv k.bj 0 500000000 && r && decide (k.pure.parts.length<=6) && decide (k.eC.length<=10) && aw (·.id) bK 0 k.pure.parts && fA k.pure.parts [] k.eC)):=by show _=_; rw [<- HT.I.2.2.1]; rfl
 cases r
 .have HN:bN (eP k.pure=false):=by show _=_; rw [Ul.I]; simp
  clear Ul;go_wp2;go_ret2;exact ⟨S.I.low,.inl ⟨HN.I,rfl⟩⟩
 by_cases h0:k.bj < 0
 .exact R_
 by_cases h1:500000000 < k.bj
 .exact R_
 obtain ⟨cs,hcs,hcz,hcc⟩:=UH k.bj T W2.heap.size HT.I.1;have HCS:bN (Tryz.prog.built 69 [(0,i_ j_ k.bj),(1,a_ T),(2,.map (o_ W2.heap.size))] =o_ cs/\cs.size=65/\ ∀ j,j < 65->cs[j]? =o_ (B3 k.bj T W2.heap.size n_ 0 0 j)):=⟨hcs,hcz,hcc⟩
 replace Ul:bN (eP k.pure=(decide (k.pure.parts.length<=6) && decide (k.eC.length<=10) && aw (·.id) bK 0 k.pure.parts && fA k.pure.parts [] k.eC)):=by show _=_; rw [Ul.I]; have:cv k.bj 0 500000000=true:=eB zw zw; rw [this]; rfl
 clear hcs hcz hcc;have hmk:=run_makeMap (P:=J3) 66;go_upto_region 5 with (first | (refine LS rfl 65 (.tmp 4) rfl Y (by rfl) 65 T (0,0) _ HTB.I underlying65 rfl (by rw [Dw,HT.I.1]) ?_) | (refine Sl rfl (.tmp 26) (.tmp 27) (.tmp 28) rfl k.bj T W2.heap.size cs (by rfl) (by rfl) (by rfl) HCS.I.1 ?_));clear m0 m1 m2 m3 m4 hmk h0 h1;have hsz:W2.heap.size+1=(W2.alloc (.map #[] 0)).heap.size:=by simp
 have hz:B_ W2.heap.size W2 ((W2.alloc (.map #[] 0)).alloc (c_ cs 69)):=((Kp _ _).alloc (Ki _) _).alloc zy _;have HW:bN (cF ((W2.alloc (.map #[] 0)).alloc (c_ cs 69)) W2.heap.size [] /\((W2.alloc (.map #[] 0)).alloc (c_ cs 69)).rowIs (W2.heap.size+1) 69 65 (B3 k.bj T W2.heap.size n_ 0 0)/\((W2.alloc (.map #[] 0)).alloc (c_ cs 69)).heap.size=W2.heap.size+2):=⟨(cF.made W2).below ((Kp _ _).alloc (Ki _) _),by rw [hsz]; exact ⟨cs,Kj _ _,HCS.I.2.1,HCS.I.2.2⟩,by simp⟩
 have mO:bN (B_ W2.heap.size W2 ((W2.alloc (.map #[] 0)).alloc (c_ cs 69))/\kp.bU W2 k.qn k.parts/\hM.bU W2 k.qi k.eC/\(∀ p∈k.parts,p.Good W2)/\w.heap.size<=W2.heap.size):=⟨hz,S.I.MT.parts,S.I.MT.eC,fun p hp=>(HS.I.2.1 p hp).below S.I.low,S.I.low.size⟩
 have Yw:=aA S.I.low;have HS5:=aA S.I;replace S:=aA (S.I.below hz);clear hz hsz HCS HTB;generalize ((W2.alloc (.map #[] 0)).alloc (c_ cs 69))=W3 at *;have Mb:=Tr W2 W3 (W2.heap.size+1) W2.heap.size k.qn k.parts k.sa mO.I.1 (Ki _) (by rw [HW.I.2.2]; omega) zw (HW.I.2.1.cell (i:=63) zw) HW.I.1 (by have h:=HS.I.1.sC; simpa [eA.pure] using h) mO.I.2.1 mO.I.2.2.2.1;obtain ⟨m0,m1,m2,m3,m4⟩:=S.I.box.cells;go_wp2_with fail;clear m0 m1 m2 m3 m4;refine Mb.mono ?_;clear Mb;rintro e W4 ⟨hb4,⟨hno,rfl⟩ | ⟨fm,rfl,l,hl,hO⟩⟩
 .have HN:bN (eP k.pure=false/\B_ w.heap.size w W4):=⟨by rw [Ul.I]; have:aw (·.id) bK 0 k.pure.parts=false:=hno; rw [this]; simp,Yw.I.trans (hb4.mono mO.I.2.2.2.2)⟩
  clear hno hb4;go_wp2;go_ret2;exact ⟨HN.I.2,.inl ⟨HN.I.1,rfl⟩⟩
 have HO:bN (VK W4 (W2.heap.size+1) W2.heap.size l/\l.map (·.1.pure)=k.pure.parts/\W4.rowIs (W2.heap.size+1) 69 65 (B3 k.bj T W2.heap.size n_ 0 0)/\B_ W2.heap.size W2 W4):=by
  have hr:W4.rowIs (W2.heap.size+1) 69 65 (B3 k.bj T W2.heap.size n_ 0 0):=HW.I.2.1.of_block hO.TN;exact ⟨⟨hO.map,fun p hp=>(hO.part p hp).imp fun _ h=>h.2,hO.nodup,zw,hr.lt,hO.apart.imp fun h g hg g' hg'=>Nat.ne_of_lt (h g hg g' hg')⟩,hl,hr,hO.low⟩
 have HKB2:bN (eP k.pure=(decide (k.eC.length<=10) && fA k.pure.parts [] k.eC)):=by
  show _=_
  have hy:aw (·.id) bK 0 k.pure.parts=true:=fm;have hlen:=Tp _ _ hy zw;rw [Ul.I,hy,decide_eq_true zw];simp
 replace S:=aA (HS5.I.below hb4);clear fm hl hO hb4 Ul;have Mb:=T3 W2 W4 (W2.heap.size+1) W2.heap.size k.bj T l k.pure.parts k.eC k.qi k.tC HO.I.1 HO.I.2.1 HO.I.2.2.1 HO.I.2.2.2 zw mO.I.2.2.1 HS.I.1.eC HS.I.1.w8;obtain ⟨m0,m1,m2,m3,m4⟩:=S.I.box.cells;go_wp2_with fail;clear m0 m1 m2 m3 m4;refine Mb.mono ?_;clear Mb;rintro e W5 ⟨hk5,⟨hno,rfl⟩ | ⟨fm,rfl,ls,a,cap,hls,hj,hL⟩⟩
 .have HN:bN (eP k.pure=false/\B_ w.heap.size w W5):=⟨by rw [HKB2.I]; exact hno,Yw.I.trans ((HO.I.2.2.2.trans (hk5.below HO.I.2.2.2.size (fun g hg=>by rw [KB.1 hg]; omega))).mono mO.I.2.2.2.2)⟩
  clear hno hk5;go_wp2;go_ret2;exact ⟨HN.I.2,.inl ⟨HN.I.1,rfl⟩⟩
 have HN:bN (eP k.pure=true/\B_ w.heap.size w W5/\VL w k.pure (W2.heap.size+1) W5):=⟨by rw [HKB2.I]; exact fm,Yw.I.trans ((HO.I.2.2.2.trans (hk5.below HO.I.2.2.2.size (fun g hg=>by rw [KB.1 hg]; omega))).mono mO.I.2.2.2.2),⟨W4,W2.heap.size,T,l,ls,a,cap,HT.I.2.2.2 (by trivial),HO.I.1,HO.I.2.1,hls,hj,hL,mO.I.2.2.2.2,by have:=mO.I.2.2.2.2; omega⟩⟩
 clear fm hk5 hls hj hL;go_wp2;go_ret2;exact ⟨HN.I.2.1,.inr ⟨HN.I.1,_,rfl,HN.I.2.2⟩⟩
def U7 {w:w_} {bi:Nat} {k:eA} (hs:k.pure.Small) (ho:gp w bi k): ∀ p∈k.parts,p.Good w:=fun p hp=>uG (pC hs hp) (ho.mine p hp)
end
section
open Go.Maps
def Zq (k:kd) (aw:Option d_) (Y3:Nat) (p c:v_):Array v_:= #[i_ j_ k.bj,i_ j_ k.major,s_ aw k.fn.length Y3,p,c]
structure Zt (w W3:w_) (X lo:Nat) (k:kd) (aw:Option d_) (Y3:Nat) (l:List (aZ × Nat)) (n:Nat) (I:List af) (Zj:Option d_) (cp:Nat) (W:w_):Prop where
 box:W.heap[X]? =o_ (c_ (Zq k aw Y3 (s_ Zj I.length cp) (s_ n_ 0 0)) 30)
 pg:YR W3.heap.size lo I Zj cp W
 pure:I.map (·.pure)=(l.take n).map (·.1.pure)
 bl: ∀ q∈I,∀ g∈q.Mc,W3.heap.size<=g\/ ∃ p∈l.take n,g∈p.1.kids
 same: ∀ g,g < W3.heap.size->g≠X->W.heap[g]? =W3.heap[g]?
 cd:B_ w.heap.size w W
 size:W3.heap.size<=W.heap.size
def Zt.len {w W3 W:w_} {X lo n Y3 cp:Nat} {k:kd} {aw Zj:Option d_} {l:List (aZ × Nat)} {I:List af} (h:Zt w W3 X lo k aw Y3 l n I Zj cp W):I.length<=n:=by
 have h1:=congrArg List.length h.pure;simp at h1;omega
def Zt.step {w W3 W W5:w_} {X lo n Y3 cp:Nat} {k:kd} {aw Zj:Option d_} {l:List (aZ × Nat)} {I:List af} {p:aZ × Nat} {r:af} (h:Zt w W3 X lo k aw Y3 l n I Zj cp W) (hp:l[n]? =o_ p)
  (hap:l.Pairwise fun p q=> ∀ g∈p.1.all p.2,∀ g'∈q.1.all q.2,g≠g') (hall: ∀ p∈l,∀ g∈p.1.all p.2,g < w.heap.size) (hX:w.heap.size<=X/\X < W3.heap.size) (hn:l.length<=6)
  (hr:ap W5 lo r) (gn:r.pure=p.1.pure) (hb:B_ W.heap.size W W5) (hbl: ∀ g∈r.Mc,g∈p.1.kids\/W.heap.size<=g):
  ∃ a' cap' w',(Builtin.append_ #[27,27] 27 #[s_ Zj I.length cp,s_ (o_ ⟨W5.heap.size,0,n_⟩) 1 1]).run J3 (W5.alloc (c_ r.cells 46))= .ok (s_ a' (I.length+1) cap') w'/\B_ w.heap.size w w'/\w'.heap[X]? =o_ (c_ (Zq k aw Y3 (s_ Zj I.length cp) (s_ n_ 0 0)) 30)/\Zt w W3 X lo k aw Y3 l (n+1) (I ++ [r]) a' cap' (w'.setCell ⟨X,3,n_⟩ (s_ a' (I.length+1) cap')):=by
 have hlt:n < l.length:=(Lj.1 hp).1;have hlen:=h.len;have hsz:=h.size;have aaX:=hb.size;have hxl:X < W.heap.size:=zw
 have bt: ∀ q∈l,∀ g∈q.1.kids,g∈q.1.all q.2:=fun q _ g hg=>LB _ (Ly _ hg)
 have hpm:p∈l:=KA hp;have hpd:p∈l.drop n:=by rw [adH hlt]; rw [Kz hlt] at hp; cases hp; exact LA
 have hlow: ∀ g∈blk Zj,W3.heap.size<=g:=fun g hg=>(cf h.pg.own hg).1
 have hf: ∀ g∈r.Mc,g∉blk Zj ++ I.flatMap af.Mc:=fun g hg hm=>by
  rcases hbl g hg with hk | hk
  .have h1:=hall p hpm g (bt p hpm g hk)
   rcases Kg.1 hm with hm | hm
   .have:=hlow g hm; omega
   .obtain ⟨q,hq,hgq⟩:=Rt.1 hm
    rcases h.bl q hq g hgq with h2 | ⟨q',hq',hg'⟩
    .omega
    .rw [<- Qn n l] at hap
     exact (List.pairwise_append.1 hap).2.2 q' hq' p hpd g (bt q' (RK hq') g hg') g (bt p hpm g hk) rfl
  .have:=h.pg.lt g hm; omega
 obtain ⟨a',cap',w',h1,h2,h3,h4⟩:=aaw (h.pg.below hb) hr hf zw zw;have hw':=h3.size;have lY:B_ w.heap.size w w':=(h.cd.trans (hb.mono h.cd.size)).trans (h3.below ZcI fun g hg=>by have:=hlow g hg; omega);have hsame: ∀ g,g < W3.heap.size->w'.heap[g]? =W.heap[g]? :=fun g hg=>(h3.same g zw fun hm=>by have:=hlow g hm; omega).trans (hb.block g zw)
 have lD:w'.heap[X]? =o_ (c_ (Zq k aw Y3 (s_ Zj I.length cp) (s_ n_ 0 0)) 30):=(hsame X zw).trans h.box;have hmore: ∀ q∈I ++ [r],∀ g∈q.Mc,W3.heap.size<=g\/ ∃ p∈l.take (n+1),g∈p.1.kids:=fun q hq g hg=>by
  rw [cj hp];rcases Kg.1 hq with hq | hq
  .rcases h.bl q hq g hg with h5 | ⟨q',h5,h6⟩
   .exact .inl h5
   .exact .inr ⟨q',Lz _ h5,h6⟩
  .rw [KB.1 hq] at hg
   rcases hbl g hg with h5 | h5
   .exact .inr ⟨p,Ly _ (KB.2 rfl),h5⟩
   .exact .inl zw
 refine ⟨a',cap',w',h1,lY,lD,?_,h2.same fun g hg=>ac5 _ _ _ _ ?_,?_,hmore,fun g hg hx=>(ac5 _ _ _ _ hx).trans ((hsame g hg).trans (h.same g hg hx)),lY.setCell hX.1 _,?_⟩
 .rw [Lf,adg]
  exact K7 _ _ _ _ _ _ lD
 .show g≠X
  rcases Kg.1 hg with hg | hg
  .have:=(cf h2.own hg).1; omega
  .obtain ⟨q,hq,hgq⟩:=Rt.1 hg
   rcases hmore q hq g hgq with h5 | ⟨q',h5,h6⟩
   .omega
   .have hm':=RK h5
    have:=hall q' hm' g (bt q' hm' g h6)
    omega
 .rw [cj hp,Kl,Kl,h.pure,adl,adl,gn]
 .simp [World.setCell]; omega
def aa8:(Tryz.prog.info? 37).map (fun i=>(i.zero,i.size,i.bytes))=o_ (o_ (a_ #[i_ j_ 0,i_ j_ 0,i_ j_ 0,i_ j_ 0]),4,32):=by kernel_rfl
structure aaI (w W4:w_) (X:Nat) (k:kd) (aw:Option d_) (Y3:Nat) (pv:v_) (ls:List gi) (n:Nat) (ac:Option d_) (cc:Nat) (W:w_):Prop where
 box:W.heap[X]? =o_ (c_ (Zq k aw Y3 pv (s_ ac n cc)) 30)
 own:W.ownsRow W4.heap.size 37 4 (s_ ac n cc) n (hM.flat ((ls.take n).map (·.c)))
 same: ∀ g,g < W4.heap.size->g≠X->W.heap[g]? =W4.heap[g]?
 cd:B_ w.heap.size w W
 size:W4.heap.size<=W.heap.size
def aaI.step {w W4 W W5:w_} {X n Y3 cc:Nat} {k:kd} {aw ac:Option d_} {pv:v_} {ls:List gi} {m:gi} (h:aaI w W4 X k aw Y3 pv ls n ac cc W) (hm:ls[n]? =o_ m) (hX:w.heap.size<=X/\X < W4.heap.size) (hn:ls.length<=10) (hb:B_ W.heap.size W W5):
  ∃ a' cap' w',(Builtin.append_ #[28,28] 28 #[s_ ac n cc,s_ (o_ ⟨W5.heap.size,0,n_⟩) 1 1]).run J3 (W5.alloc (c_ (nx m.c) 37))= .ok (s_ a' (n+1) cap') w'/\w'.heap[X]? =o_ (c_ (Zq k aw Y3 pv (s_ ac n cc)) 30)/\aaI w W4 X k aw Y3 pv ls (n+1) a' cap' (w'.setCell ⟨X,4,n_⟩ (s_ a' (n+1) cap')):=by
 have hlt:n < ls.length:=(Lj.1 hm).1;have hsz:=h.size;have aaX:=hb.size;have hlow: ∀ g∈blk ac,W4.heap.size<=g:=fun g hg=>(cf h.own hg).1
 obtain ⟨a',cap',w',h1,h2,h3,h4⟩:=aad underlying28 aa8 rfl (by decide) (by decide) (nx m.c) rfl (fun u hu=>by
  simp only [Kt,Ku,or_false] at hu;rcases hu with rfl | rfl | rfl | rfl <;> rfl) (cR h.own hb) zw zw
 have hw':=h3.size;have lY:B_ w.heap.size w w':=(h.cd.trans (hb.mono h.cd.size)).trans (h3.below ZcI fun g hg=>by have:=hlow g hg; omega);have hsame: ∀ g,g < W4.heap.size->w'.heap[g]? =W.heap[g]? :=fun g hg=>(h3.same g zw fun hm=>by have:=hlow g hm; omega).trans (hb.block g zw)
 have lD:=(hsame X zw).trans h.box;refine ⟨a',cap',w',h1,lD,K7 _ _ _ _ _ _ lD,?_,fun g hg hx=>(ac5 _ _ _ _ hx).trans ((hsame g hg).trans (h.same g hg hx)),lY.setCell hX.1 _,?_⟩
 .have e:hM.flat ((ls.take (n+1)).map (·.c))=hM.flat ((ls.take n).map (·.c)) ++ (nx m.c).toList:=by
   rw [cj hm,Kl,hM.dc];simp [Kind.flat,hM,Vg]
  rw [e];exact aL h2 fun g hg=>ac5 _ _ _ _ (by have:=(cf h2 hg).1; show g≠X; omega)
 .simp [World.setCell]; omega
end
section
open Go.Maps
attribute [local go_sem ↓] Kc Kd
def cutK (Post:Act->w_->Prop) (Q:Exit->Act->w_->Prop) (e:Exit) (a:Act) (w:w_):Prop:=match e with
 | .normal=>Post a w
 | e=>Q e a w
def ZN {P:Program} {c:Code} {Q:Exit->Act->w_->Prop} {a:Act} {w:w_} (Post:Act->Act->w_->Prop) (h:c.wp P (cutK (Post a) Q) a w) (hk: ∀ a' w',Post a a' w'->Q .normal a' w'):c.wp P Q a w:=
 Code.wp_mono (fun e a' w' h'=>by
  cases e with
  | normal=>exact hk a' w' h'
  | _=>exact h') h
def Zk (a:Act):List (Nat × v_)->Act
 | [] =>a
 | (d,v) :: r=>Zk (a.put (o_ d) v) r
def rtK {Zb:Func} {R:Ending->w_->Prop} {a:Act} {w:w_} {old:Array v_} {p:Tmp} (hr:Zb.results= #[.cell p 30]) {g:Nat} {cs:Array v_} (hg:w.heap[g]? =o_ (c_ old 30)) (h:R (r_ (a_ cs)) (w.setRow g cs)) (hp:a.tmps.getD p undef=p_ (o_ ⟨g,0,n_⟩):=by exact rfl) (hd:a.defers= [] :=by exact rfl)
  (hi:(Tryz.prog.info? 30).map (·.size)=o_ cs.size:=by kernel_rfl):bodyPost J3 Zb R .ret a (w.setRow g cs):=
 KT (v:=a_ cs) (K9 hr _ _ g _ _ (0,0) _ hp (KU _ _ _ _ _ _ hg) underlying30 rfl hi) hd h
def Zt.drew {w W3 W:w_} {X lo n Y3 cp:Nat} {k:kd} {aw Zj:Option d_} {l:List (aZ × Nat)} {I:List af} (h:Zt w W3 X lo k aw Y3 l n I Zj cp W):Zt w W3 X lo k aw Y3 l n I Zj cp W.drew:=⟨h.box,h.pg.same fun _ _=>rfl,h.pure,h.bl,h.same,h.cd.drew,h.size⟩
def aac (k:eA) (B:Nat) (b0 d0 f b1 d1 b3 e:Bool) (g0 g1 o:Nat) (a0 a1:Option d_) (c0 c1:Nat):Act:=⟨#[a_ k.row,p_ (o_ ⟨B,0,n_⟩),p_ (o_ ⟨(B+1),0,n_⟩),bif b3 then p_ (o_ ⟨o,0,n_⟩) else undef,undef,p_ (o_ ⟨B,0,n_⟩),i_ j_ k.bj,p_ (o_ ⟨B,1,n_⟩),p_ (o_ ⟨B,1,n_⟩),i_ j_ k.major,bif b0 then s_ (o_ ⟨g0,0,n_⟩) 0 0 else undef,p_ (o_ ⟨B,1,n_⟩),p_ (o_ ⟨B,2,n_⟩),s_ k.vb k.fn.length k.Te,bif d0 then s_ a0 k.fn.length c0 else undef,bif f then a_ #[i_ j_ k.major,s_ a0 k.fn.length c0] else undef,bif b1 then s_ (o_ ⟨g1,0,n_⟩) 0 0 else undef,p_ (o_ ⟨B,4,n_⟩),s_ k.qi k.eC.length k.tC,bif d1 then s_ a1 k.eC.length c1 else undef,bif e then a_ #[i_ j_ k.bj,i_ j_ k.major,s_ a0 k.fn.length c0,s_ n_ 0 0,s_ a1 k.eC.length c1] else undef,undef,undef,undef,undef,undef,undef,undef,undef,undef,undef,undef,undef,undef,undef,undef,undef,undef,undef,undef],[]⟩
def aa0 (k:eA) (We:w_) (l:Array Bool) (a:Act) (w:w_):Prop:= ∃ (b0 d0 f b1 d1 b3 d3 e:Bool) (g0 g1 o:Nat) (a0 a1:Option d_) (c0 c1:Nat),l= #[true,true,true,true,true,b0,true,true,true,d0,f,b1,true,true,d1,e,b3,d3] /\a=aac k We.heap.size b0 d0 f b1 d1 b3 e g0 g1 o a0 a1 c0 c1/\Zg k We w b0 d0 f b1 d1 b3 d3 e g0 g1 o a0 a1 c0 c1
abbrev aa4 (k:eA) (w w':w_):Prop:=w'.cell? ⟨w.heap.size,0,n_⟩=o_ (i_ j_ k.bj)/\w'.cell? ⟨w.heap.size,1,n_⟩=o_ (i_ j_ k.major)/\w'.cell? ⟨w.heap.size,2,n_⟩=o_ (s_ k.vb k.fn.length k.Te)/\w'.cell? ⟨w.heap.size,4,n_⟩=o_ (s_ k.qi k.eC.length k.tC)
structure YY (w W3:w_) (X:Nat) (k:eA) (a0 a1:Option d_) (c0 c1 n:Nat) (I:List af) (Zj:Option d_) (cp:Nat) (W:w_):Prop where
 box:W.heap[X]? =o_ (c_ #[i_ j_ k.bj,i_ j_ k.major,s_ a0 k.fn.length c0,s_ Zj I.length cp,s_ a1 k.eC.length c1] 30)
 pg:YR W3.heap.size W3.heap.size I Zj cp W
 pure:I.map (·.pure)=(k.parts.take n).map (·.pure)
 same: ∀ g,g < W3.heap.size->g≠X->W.heap[g]? =W3.heap[g]?
 cd:B_ w.heap.size w W
 size:W3.heap.size<=W.heap.size
section
variable {w W3 W W5:w_} {X n c0 c1 cp:Nat} {k:eA} {a0 a1 Zj:Option d_} {I:List af} {p r:af}
def YY.drew (h:YY w W3 X k a0 a1 c0 c1 n I Zj cp W):YY w W3 X k a0 a1 c0 c1 n I Zj cp W.drew:=⟨h.box,h.pg.same fun _ _=>rfl,h.pure,h.same,h.cd.drew,h.size⟩
def YY.len (h:YY w W3 X k a0 a1 c0 c1 n I Zj cp W):I.length<=n:=by
 have h1:=congrArg List.length h.pure;simp at h1;omega
def YY.step (h:YY w W3 X k a0 a1 c0 c1 n I Zj cp W) (hp:k.parts[n]? =o_ p) (hX:w.heap.size<=X/\X < W3.heap.size) (hn:k.parts.length<=1048576) (hr:ap W5 W.heap.size r) (gn:r.pure=p.pure) (hb:B_ W.heap.size W W5):
  ∃ a' cap' w',(Builtin.append_ #[27,27] 27 #[s_ Zj I.length cp,s_ (o_ ⟨W5.heap.size,0,n_⟩) 1 1]).run J3 (W5.alloc (c_ r.cells 46))= .ok (s_ a' (I.length+1) cap') w'/\(∀ g,g < W3.heap.size->w'.heap[g]? =W.heap[g]?)/\B_ w.heap.size w w'/\w'.heap[X]? =o_ (c_ #[i_ j_ k.bj,i_ j_ k.major,s_ a0 k.fn.length c0,s_ Zj I.length cp,s_ a1 k.eC.length c1] 30)/\YY w W3 X k a0 a1 c0 c1 (n+1) (I ++ [r]) a' cap' (w'.setCell ⟨X,3,n_⟩ (s_ a' (I.length+1) cap')):=by
 have hlt:n < k.parts.length:=(Lj.1 hp).1;have hlen:=h.len;have hsz:=h.size;have aaX:=hb.size;have hlow: ∀ g∈blk Zj,W3.heap.size<=g:=fun g hg=>(cf h.pg.own hg).1
 have hf: ∀ g∈r.Mc,g∉blk Zj ++ I.flatMap af.Mc:=fun g hg hm=>by
  have:=h.pg.lt g hm
  have:=(hr.lt g hg).1
  omega
 obtain ⟨a',cap',w',h1,h2,h3,h4⟩:=aaw (h.pg.below hb) (hr.lower hsz) hf zw zw;have hw':=h3.size;have lY:B_ w.heap.size w w':=(h.cd.trans (hb.mono h.cd.size)).trans (h3.below ZcI fun g hg=>by have:=hlow g hg; omega);have hsame: ∀ g,g < W3.heap.size->w'.heap[g]? =W.heap[g]? :=fun g hg=>(h3.same g zw fun hm=>by have:=hlow g hm; omega).trans (hb.block g zw)
 have lD:=(hsame X zw).trans h.box;refine ⟨a',cap',w',h1,hsame,lY,lD,?_,h2.same fun g hg=>ac5 _ _ _ _ ?_,?_,fun g hg hx=>(ac5 _ _ _ _ hx).trans ((hsame g hg).trans (h.same g hg hx)),lY.setCell hX.1 _,?_⟩
 .rw [Lf,adg]
  exact K7 _ _ _ _ _ _ lD
 .show g≠X
  rcases Kg.1 hg with hg | hg
  .have:=(cf h2.own hg).1; omega
  .obtain ⟨q,hq,hgq⟩:=Rt.1 hg
   have:=((h2.mine q hq).lt g hgq).1
   omega
 .rw [cj hp,Kl,Kl,h.pure,adl,adl,gn]
 .simp [World.setCell]; omega
end
def abq (w:w_) (k:eA) (e:Ending) (w':w_):Prop:= ∃ (k':eA) (g:Nat),e=r_ (a_ k'.row)/\gp w' w.heap.size k'/\k'.pure=k.pure/\(k'.vb=o_ ⟨g,0,n_⟩/\g < w'.heap.size)/\B_ w.heap.size w w'
def aaz (k:eA) (w:w_) (hf:k.Fit) (h:eA.At w k):
  k_ J3 24 #[a_ k.row] w fun e w'=>abq w k e w':=by
 have HF:bN (k.Fit/\eA.At w k):=⟨hf,h⟩
 have HC:bN (Zg k w ((w.alloc (c_ k.row 30)).alloc (c_ T9 30)).drew false false false false false false false false 0 0 0 n_ n_ 0 0):=by
  have b1:B_ w.heap.size w ((w.alloc (c_ k.row 30)).alloc (c_ T9 30)):=((Kp _ _).alloc (Ki _) _).alloc zy _;exact ⟨b1.drew,(PU zy).trans (Kj _ _),Kq _ _ _,⟨(fun h=>by cases h),fun h=>by cases h⟩,⟨(fun h=>by cases h),fun h=>by cases h⟩,(fun h=>by cases h),⟨(fun h=>by cases h),(fun h=>by cases h),fun h=>by cases h⟩,zy,⟨fun i j _ q hq=>by rcases i with _ | _ | _ | _ | _ <;> simp [four,bM] at hq,fun i q hq=>by rcases i with _ | _ | _ | _ | _ <;> simp [four,bM] at hq⟩,fun h=>by cases h⟩
 have HS:bN (aa4 k w ((w.alloc (c_ k.row 30)).alloc (c_ T9 30)).drew):=by obtain ⟨m0,m1,m2,m3,m4⟩:=HC.I.src.cells; exact ⟨m0,m1,m2,m4⟩
 clear hf h
 go_enter func24,ntmps24
 go_upto_region 1 with fail;generalize (w.alloc (c_ k.row 30)).alloc (c_ T9 30)=W at *;refine ZN (fun a0 a' w'=> ∃ (e5 e6 e7 e8 e9 Pn e11 PF PG e14 e15 e16 PH e18 e19 e20:v_) (g0 g1 o:Nat) (a0' a1':Option d_) (c0 c1:Nat),a'=Zk a0 [(3,p_ (o_ ⟨o,0,n_⟩)),(5,e5),(6,e6),(7,e7),(8,e8),(9,e9),(10,Pn),(11,e11),(12,PF),(13,PG),(14,e14),(15,e15),(16,e16),(17,PH),(18,e18),(19,e19),(20,e20)] /\Zg k w w' true true true true true true true true g0 g1 o a0' a1' c0 c1) ?_ ?_
 .refine Kr (S:=aa4 k w) ZbY HS.I (fun bE=> ?_)
  refine tt 0 bE ?_;refine tt 1 bE ?_;refine tt 2 bE ?_;refine tt 3 bE ?_;refine tt 4 bE ?_;refine tt 6 bE ?_;refine tt 7 bE ?_;refine tt 8 bE ?_;refine tt 12 bE ?_;refine tt 13 bE ?_;refine wild (aa0 k w) (fun l a w1 hI=> ?_) (fun l a w1 hI i hi=> ?_) (fun l a w1 hI h0=> ?_) _ _ _ _ ⟨false,false,false,false,false,false,false,false,0,0,0,n_,n_,0,0,by kernel_rfl,rfl,HC.I⟩ (of_decide_eq_true ZbY)
  .obtain ⟨b0,d0,f,b1,d1,b3,d3,e,g0,g1,o,a0,a1,c0,c1,-,-,hC⟩:=hI
   obtain ⟨m0,m1,m2,m3,m4⟩:=hC.src.cells;exact ⟨m0,m1,m2,m4⟩
  .obtain ⟨b0,d0,f,b1,d1,b3,d3,e,g0,g1,o,a0,a1,c0,c1,rfl,rfl,hC⟩:=hI
   have HI:bN (Zg k w w1 b0 d0 f b1 d1 b3 d3 e g0 g1 o a0 a1 c0 c1):=hC;clear hC;unfold aac
   match i,hi with
   | 0,hi=>exact absurd (cX hi) zy
   | 1,hi=>exact absurd (cX hi) zy
   | 2,hi=>exact absurd (cX hi) zy
   | 3,hi=>exact absurd (cX hi) zy
   | 4,hi=>exact absurd (cX hi) zy
   | 5,hi=>
    have hb:b0=false:=by have h5:=cX hi; simpa using h5
    subst hb;refine ln (o:=_) rfl ZbY (fun K hK=> ?_);go_wp2_with fail;exact hK.out _ _ ⟨true,d0,f,b1,d1,b3,d3,e,w1.heap.size,g1,o,a0,a1,c0,c1,by rfl,by rfl,HI.I.aaZ⟩
   | 6,hi=>exact absurd (cX hi) zy
   | 7,hi=>exact absurd (cX hi) zy
   | 8,hi=>exact absurd (cX hi) zy
   | 9,hi=>
    have hb:d0=false:=by have h5:=cX hi; simpa using h5
    have hn5:b0=true:=by have h5:=hF [5,8] hi ZbY 5 (by decide); simpa using h5
    subst hb hn5;refine ln (o:=_) rfl ZbY (fun K hK=> ?_);obtain ⟨a',c',w2,hr,ho,hg,hq,hs⟩:=aaU w1 (w.heap.size+2) g0 (HI.I.s0.made rfl rfl).1 (HI.I.s0.made rfl rfl).2 k.vb k.fn k.Te ((HF.I.2.below HI.I.cd).fn.1) HF.I.1.Ts HI.I.size;refine cM _ _ _ rfl _ _ _ w2 rfl rfl hr ?_;have hf:f=false:=by cases f with | false=>rfl | true=>(have h5:=HI.I.cl.2.2 rfl; simp at h5)
    subst hf;have he:e=false:=by cases e with | false=>rfl | true=>(have h5:=(HI.I.cl.1 rfl).1; simp at h5)
    subst he;exact hK.out _ _ ⟨true,true,false,b1,d1,b3,d3,false,g0,g1,o,a',a1,c',c1,by rfl,by rfl,HI.I.aa1 ho hg hq hs⟩
   | 10,hi=>
    have hb:f=false:=by have h5:=cX hi; simpa using h5
    have hn9:d0=true:=by have h5:=hF [4,9] hi ZbY 9 (by decide); simpa using h5
    subst hb hn9;refine ln (o:=_) rfl ZbY (fun K hK=> ?_);go_wp2_with fail;exact hK.out _ _ ⟨b0,true,true,b1,d1,b3,d3,e,g0,g1,o,a0,a1,c0,c1,by rfl,by rfl,HI.I.frame rfl⟩
   | 11,hi=>
    have hb:b1=false:=by have h5:=cX hi; simpa using h5
    subst hb;refine ln (o:=_) rfl ZbY (fun K hK=> ?_);go_wp2_with fail;exact hK.out _ _ ⟨b0,d0,f,true,d1,b3,d3,e,g0,w1.heap.size,o,a0,a1,c0,c1,by rfl,by rfl,HI.I.abg⟩
   | 12,hi=>exact absurd (cX hi) zy
   | 13,hi=>exact absurd (cX hi) zy
   | 14,hi=>
    have hb:d1=false:=by have h5:=cX hi; simpa using h5
    have hn11:b1=true:=by have h5:=hF [11,13,9] hi ZbY 11 (by decide); simpa using h5
    subst hb hn11;refine ln (o:=_) rfl ZbY (fun K hK=> ?_);obtain ⟨a',c',w2,hr,ho,hg,hq⟩:=abd w1 (w.heap.size+2) g1 (HI.I.s1.made rfl rfl).1 (HI.I.s1.made rfl rfl).2 k.qi k.eC k.tC ((HF.I.2.below HI.I.cd).eC.1) HF.I.1.w8 HI.I.size;refine cM _ _ _ rfl _ _ _ w2 rfl rfl hr ?_;have he:e=false:=by cases e with | false=>rfl | true=>(have h5:=(HI.I.cl.1 rfl).2; simp at h5)
    subst he;exact hK.out _ _ ⟨b0,d0,f,true,true,b3,d3,false,g0,g1,o,a0,a',c0,c',by rfl,by rfl,HI.I.aa2 ho hg hq⟩
   | 15,hi=>
    have hb:e=false:=by have h5:=cX hi; simpa using h5
    have hn10:f=true:=by have h5:=hF [1,10,14] hi ZbY 10 (by decide); simpa using h5
    have hn14:d1=true:=by have h5:=hF [1,10,14] hi ZbY 14 (by decide); simpa using h5
    subst hb hn10 hn14;refine ln (o:=_) rfl ZbY (fun K hK=> ?_);go_wp2_with fail;exact hK.out _ _ ⟨b0,d0,true,b1,true,b3,d3,true,g0,g1,o,a0,a1,c0,c1,by rfl,by rfl,HI.I.build rfl rfl⟩
   | 16,hi=>
    have hb:b3=false:=by have h5:=cX hi; simpa using h5
    subst hb;refine ln (o:=_) rfl ZbY (fun K hK=> ?_);have hd3:d3=false:=by cases d3 with | false=>rfl | true=>(have h5:=HI.I.cl.2.1 rfl; simp at h5)
    subst hd3;go_wp2_with fail;exact hK.out _ _ ⟨b0,d0,f,b1,d1,true,false,e,g0,g1,w1.heap.size,a0,a1,c0,c1,by rfl,by rfl,HI.I.aa9⟩
   | 17,hi=>
    have hb:d3=false:=by have h5:=cX hi; simpa using h5
    have hn16:b3=true:=by have h5:=hF [16,15,14,0,1,2,3,4,5,6,7,8,9,10,11,12,13,14,15,16] hi ZbY 16 (by decide); simpa using h5
    have hn15:e=true:=by have h5:=hF [16,15,14,0,1,2,3,4,5,6,7,8,9,10,11,12,13,14,15,16] hi ZbY 15 (by decide); simpa using h5
    subst hb hn16 hn15;refine ln (o:=_) rfl ZbY (fun K hK=> ?_);refine qd _ _ _ rfl o _ _ _ rfl rfl (HI.I.I rfl) ZbY rfl ZbY ?_;exact hK.out _ _ ⟨b0,d0,f,b1,d1,true,true,true,g0,g1,o,a0,a1,c0,c1,by rfl,by rfl,HI.I.store⟩
   | n+18,hi=>exact absurd (cX hi) zy
  .obtain ⟨b0,d0,f,b1,d1,b3,d3,e,g0,g1,o,a0,a1,c0,c1,rfl,rfl,hC⟩:=hI
   have hno: ∀ i,i∉Region.ready .any _ _:=fun i hi=>by rw [h0] at hi; cases hi
   have hb0:b0=true:=by cases hx:b0 with | true=>rfl | false=>exact absurd (jW [] ZbY ZbY Zch (fun j hj=>by cases hj)) (hno 5)
   have hd0:d0=true:=by cases hx:d0 with | true=>rfl | false=>exact absurd (jW [5,8] ZbY ZbY Zch (fun j hj=>by simp only [Kt,Ku,or_false] at hj; rcases hj with rfl | rfl <;> first | rfl | simp [hb0])) (hno 9)
   have hf:f=true:=by cases hx:f with | true=>rfl | false=>exact absurd (jW [4,9] ZbY ZbY Zch (fun j hj=>by simp only [Kt,Ku,or_false] at hj; rcases hj with rfl | rfl <;> first | rfl | simp [hd0])) (hno 10)
   have hb1:b1=true:=by cases hx:b1 with | true=>rfl | false=>exact absurd (jW [] ZbY ZbY Zch (fun j hj=>by cases hj)) (hno 11)
   have hd1:d1=true:=by cases hx:d1 with | true=>rfl | false=>exact absurd (jW [11,13,9] ZbY ZbY Zch (fun j hj=>by simp only [Kt,Ku,or_false] at hj; rcases hj with rfl | rfl | rfl <;> first | rfl | simp [hb1,hd0])) (hno 14)
   have he:e=true:=by cases hx:e with | true=>rfl | false=>exact absurd (jW [1,10,14] ZbY ZbY Zch (fun j hj=>by simp only [Kt,Ku,or_false] at hj; rcases hj with rfl | rfl | rfl <;> first | rfl | simp [hf,hd1])) (hno 15)
   have hb3:b3=true:=by cases hx:b3 with | true=>rfl | false=>exact absurd (jW [] ZbY ZbY Zch (fun j hj=>by cases hj)) (hno 16)
   have hd3:d3=true:=by cases hx:d3 with | true=>rfl | false=>exact absurd (jW [16,15,14,0,1,2,3,4,5,6,7,8,9,10,11,12,13,14,15,16] ZbY ZbY Zch (fun j hj=>by simp only [Kt,Ku,or_false] at hj; rcases hj with rfl | rfl | rfl | rfl | rfl | rfl | rfl | rfl | rfl | rfl | rfl | rfl | rfl | rfl | rfl | rfl | rfl | rfl | rfl | rfl <;> first | rfl | simp [hb0,hd0,hf,hb1,hd1,he,hb3])) (hno 17)
   subst hb0 hd0 hf hb1 hd1 he hb3 hd3;simp only [aac,cond_true];exact ⟨_,_,_,_,_,_,_,_,_,_,_,_,_,_,_,_,g0,g1,o,a0,a1,c0,c1,by simp only [Zk,pt,sb,s0,s1]; rfl,hC⟩
 .rintro a' W3 ⟨e5,e6,e7,e8,e9,Pn,e11,PF,PG,e14,e15,e16,PH,e18,e19,e20,g0,g1,X,a0,a1,c0,c1,rfl,hC⟩
  have HI:=aA hC;clear hC HC HS;simp only [Zk,pt,sb,s0,s1];have HX:bN (w.heap.size+2<=X/\X < W3.heap.size):=HI.I.pR.xy 3 X ZcF;go_wp2_with fail
  go_loopw [4] (fun i wr=> ∃ n:Nat,n<=k.parts.length/\i=i_ j_ n/\bN (∃ (I:List af) (Zj:Option d_) (cp:Nat),YY w W3 X k a0 a1 c0 c1 n I Zj cp wr)) (fun i _=>k.parts.length - (Go.RowKit.intOf i).toNat)
  case atStart=>exact ⟨0,Ky _,rfl,⟨[],n_,0,HI.I.I rfl,YR.start _ _ _,rfl,fun _ _ _=>rfl,HI.I.cd,Ki _⟩⟩
  case round=>
   obtain ⟨n,hk,rfl,HA⟩:=hrel;obtain ⟨I,Zj,cp,hA⟩:=HA.I;replace HA:=aA hA;clear hA;have hkb:Tk wr w.heap.size k:=(HA.I.same _ ZcV ZcV).trans HI.I.src;by_cases hlt:n < k.parts.length
   .have i0:(0:Int)<=(n:Int):=zw
    have i1:(n:Int) < (k.parts.length:Int):=zw
    have hl20:=HF.I.1.sC;obtain ⟨p,hp⟩: ∃ p,k.parts[n]? =o_ p:=⟨_,Kz hlt⟩
    have HP:=aA hp;clear hp;have Ul:=aA hkb;obtain ⟨m0,m1,m2,m3,m4⟩:=hkb.cells;clear hkb;go_upto_region 5 with fail;clear m0 m1 m2 m3 m4;refine ZN (fun a0' a' w'=> ∃ (e28 e29 e30 e31 e32 e33 e34 e35 e36 e37 e38:v_) (aaF:List af) (ap2:Option d_) (cp2:Nat),a'=Zk a0' [(28,e28),(29,e29),(30,e30),(31,e31),(32,e32),(33,e33),(34,e34),(35,e35),(36,e36),(37,e37),(38,e38)] /\YY w W3 X k a0 a1 c0 c1 (n+1) aaF ap2 cp2 w') ?_ ?_
    .refine Kr (S:=(fun W=>B_ w.heap.size w W/\Tk W w.heap.size k)) ZbY ⟨HA.I.cd.drew,Ul.I⟩ (fun _=> ?_)
     replace HA:=aA HA.I.drew;replace Ul:bN (Tk (World.drew _) w.heap.size k):=Ul.I;generalize World.drew _=V at *;have HSV:bN (B_ w.heap.size w V/\Tk V w.heap.size k):=⟨HA.I.cd,Ul.I⟩
     obtain ⟨gs,iE,-,-⟩:=ic HF.I.2.parts HP.I;have HG:bN (∀ W,B_ w.heap.size w W->af.In W gs n p):=fun W hW=>by obtain ⟨g2,h2,h3,-⟩:=ic (HF.I.2.below hW).parts HP.I; rw [iE] at h2; cases h2; exact h3
     have HGA:=aA iE;clear iE;refine tt 0 HSV.I ?_;refine tt 2 HSV.I ?_;refine tt 3 HSV.I ?_ (hy:=fun w0 hS0=>by obtain ⟨m0,m1,m2,m3,m4⟩:=hS0.2.cells; rw [HGA.I] at m3; go_simp; try with_reducible rfl);refine tt 4 HSV.I ?_;refine tt 5 HSV.I ?_;refine tt 6 HSV.I ?_ (hy:=fun w0 hS0=>by obtain ⟨q0,q1,q2,q3,q4,q5,q6,q7⟩:=HG.I w0 hS0.1; go_simp; try with_reducible rfl)
     try simp only [pt,sb,s0,s1]
     have HCX:bN (∀ W:w_,W.heap[X]? =o_ (c_ #[i_ j_ k.bj,i_ j_ k.major,s_ a0 k.fn.length c0,s_ Zj I.length cp,s_ a1 k.eC.length c1] 30)->W.cell? ⟨X,3,n_⟩=o_ (s_ Zj I.length cp)):=fun W h=>by simp [World.cell?,h]
     have HT:bN (k_ J3 44 #[a_ p.cells] V fun e W5=> ∃ r:af,e=r_ (a_ r.cells)/\B_ V.heap.size V W5/\ ∃ a' cap' w',(Builtin.append_ #[27,27] 27 #[s_ Zj I.length cp,s_ (o_ ⟨W5.heap.size,0,n_⟩) 1 1]).run J3 (W5.alloc (c_ r.cells 46))= .ok (s_ a' (I.length+1) cap') w'/\(∀ g,g < W3.heap.size->w'.heap[g]? =V.heap[g]?)/\B_ w.heap.size w w'/\w'.heap[X]? =o_ (c_ #[i_ j_ k.bj,i_ j_ k.major,s_ a0 k.fn.length c0,s_ Zj I.length cp,s_ a1 k.eC.length c1] 30)/\YY w W3 X k a0 a1 c0 c1 (n+1) (I ++ [r]) a' cap' (w'.setCell ⟨X,3,n_⟩ (s_ a' (I.length+1) cap'))):=by
      have hfp:=HF.I.1.parts p (KA HP.I);refine adn (fR p V hfp.1 hfp.2 (by obtain ⟨g2,-,-,h3⟩:=ic (HF.I.2.below HA.I.cd).parts HP.I; exact h3)) ?_;rintro e W5 ⟨r,rfl,ho,gn,hb⟩;exact ⟨r,rfl,hb,HA.I.step HP.I ⟨by have:=HX.I.1; omega,HX.I.2⟩ HF.I.1.sC ho gn hb⟩
     refine KW (rs:= [1,7]) ZbY zy ?_;refine KX rfl (fun Q hQ=> ?_) (KX rfl (fun Q hQ=> ?_) KY)
     focus
      simp only [KZ,K0,K1];rw [if_pos (by rfl)];have c3:=HCX.I V HA.I.box
      try simp only [af.cells] at c3
      go_wp2_with fail;clear c3;refine hQ.out _ _ HSV.I (fun _=> ?_);clear hQ Q
      try simp only [pt,sb,s0,s1]
      refine L7 7 (fun Q hQ=> ?_)
      try simp only [af.cells] at HT
      go_wp2_with fail;refine HT.I.mono ?_;rintro e W5 ⟨r,rfl,iJ,a',cap',w',hap,qY,lY,lW,hpl⟩;have H5:bN ((B_ w.heap.size w W5/\Tk W5 w.heap.size k)/\(B_ w.heap.size w (W5.alloc (c_ r.cells 46))/\Tk (W5.alloc (c_ r.cells 46)) w.heap.size k)/\W5.heap[X]? =V.heap[X]? /\(W5.alloc (c_ r.cells 46)).heap[X]? =V.heap[X]?):=by
       exact H_
      have HN:bN ((Builtin.append_ #[27,27] 27 #[s_ Zj I.length cp,s_ (o_ ⟨W5.heap.size,0,n_⟩) 1 1]).run J3 (W5.alloc (c_ r.cells 46))= .ok (s_ a' (I.length+1) cap') w'):=hap;have HM:bN ((B_ w.heap.size w w'/\Tk w' w.heap.size k)/\w'.heap[X]? =o_ (c_ #[i_ j_ k.bj,i_ j_ k.major,s_ a0 k.fn.length c0,s_ Zj I.length cp,s_ a1 k.eC.length c1] 30)/\YY w W3 X k a0 a1 c0 c1 (n+1) (I ++ [r]) a' cap' (w'.setCell ⟨X,3,n_⟩ (s_ a' (I.length+1) cap'))/\Tk (w'.setCell ⟨X,3,n_⟩ (s_ a' (I.length+1) cap')) w.heap.size k):=by
       exact Zat
      clear hap qY lY lW hpl iJ;refine hQ.out _ _ H5.I.1 (fun _=> ?_);clear hQ Q
      try simp only [pt,sb,s0,s1]
      refine L7 8 (fun Q hQ=> ?_)
      try simp only [af.cells]
      go_wp2_with fail;refine hQ.out _ _ H5.I.2.1 (fun _=> ?_);clear hQ Q
      try simp only [pt,sb,s0,s1]
     rotate_left
     focus
      simp only [KZ,K0,K1];rw [if_pos (by rfl)]
      try simp only [af.cells] at HT
      go_wp2_with fail;refine HT.I.mono ?_;rintro e W5 ⟨r,rfl,iJ,a',cap',w',hap,qY,lY,lW,hpl⟩;have H5:bN ((B_ w.heap.size w W5/\Tk W5 w.heap.size k)/\(B_ w.heap.size w (W5.alloc (c_ r.cells 46))/\Tk (W5.alloc (c_ r.cells 46)) w.heap.size k)/\W5.heap[X]? =V.heap[X]? /\(W5.alloc (c_ r.cells 46)).heap[X]? =V.heap[X]?):=by
       exact H_
      have HN:bN ((Builtin.append_ #[27,27] 27 #[s_ Zj I.length cp,s_ (o_ ⟨W5.heap.size,0,n_⟩) 1 1]).run J3 (W5.alloc (c_ r.cells 46))= .ok (s_ a' (I.length+1) cap') w'):=hap;have HM:bN ((B_ w.heap.size w w'/\Tk w' w.heap.size k)/\w'.heap[X]? =o_ (c_ #[i_ j_ k.bj,i_ j_ k.major,s_ a0 k.fn.length c0,s_ Zj I.length cp,s_ a1 k.eC.length c1] 30)/\YY w W3 X k a0 a1 c0 c1 (n+1) (I ++ [r]) a' cap' (w'.setCell ⟨X,3,n_⟩ (s_ a' (I.length+1) cap'))/\Tk (w'.setCell ⟨X,3,n_⟩ (s_ a' (I.length+1) cap')) w.heap.size k):=by
       exact Zat
      clear hap qY lY lW hpl iJ;refine hQ.out _ _ H5.I.1 (fun _=> ?_);clear hQ Q
      try simp only [pt,sb,s0,s1]
      refine KW (rs:= [1,8]) ZbY zy ?_;refine KX rfl (fun Q hQ=> ?_) (KX rfl (fun Q hQ=> ?_) KY)
      focus
       simp only [KZ,K0,K1];rw [if_pos (by rfl)];have c3:=HCX.I W5 (H5.I.2.2.1.trans HA.I.box)
       try simp only [af.cells] at c3
       go_wp2_with fail;clear c3;refine hQ.out _ _ H5.I.1 (fun _=> ?_);clear hQ Q
       try simp only [pt,sb,s0,s1]
       refine L7 8 (fun Q hQ=> ?_)
       try simp only [af.cells]
       go_wp2_with fail;refine hQ.out _ _ H5.I.2.1 (fun _=> ?_);clear hQ Q
       try simp only [pt,sb,s0,s1]
      rotate_left
      focus
       simp only [KZ,K0,K1];rw [if_pos (by rfl)]
       try simp only [af.cells]
       go_wp2_with fail;refine hQ.out _ _ H5.I.2.1 (fun _=> ?_);clear hQ Q
       try simp only [pt,sb,s0,s1]
       refine L7 1 (fun Q hQ=> ?_);have c3:=HCX.I _ (H5.I.2.2.2.trans HA.I.box)
       try simp only [af.cells] at c3
       go_wp2_with fail;clear c3;refine hQ.out _ _ H5.I.2.1 (fun _=> ?_);clear hQ Q
       try simp only [pt,sb,s0,s1]
     all_goals
      refine L7 9 (fun Q hQ=> ?_);refine cM _ _ 27 rfl _ _ _ w' rfl rfl HN.I ?_;refine hQ.out _ _ HM.I.1 (fun _=> ?_);clear hQ Q
      try simp only [pt,sb,s0,s1]
      refine tt 10 HM.I.1 ?_;refine L7 11 (fun Q hQ=> ?_);have c3:w'.cell? ⟨X,3,n_⟩=o_ (s_ Zj I.length cp):=HCX.I _ HM.I.2.1;have u3:w'.frozen? ⟨X,3,n_⟩=false:=by have:=HM.I.2.1; simp [World.frozen?,this]
      go_wp2_with fail;clear c3 u3;refine hQ.out _ _ ⟨HM.I.2.2.1.cd,HM.I.2.2.2⟩ (fun _=> ?_);clear hQ Q;refine K3 ZbY ?_ _;exact ⟨_,_,_,_,_,_,_,_,_,_,_,I ++ [r],a',cap',by simp only [Zk,pt,sb,s0,s1]; rfl,HM.I.2.2.1⟩
    .rintro a' W5 ⟨e28,e29,e30,e31,e32,e33,e34,e35,e36,e37,e38,aaF,ap2,cp2,rfl,hA2⟩
     replace HA:=aA hA2;clear hA2;simp only [Zk,pt,sb,s0,s1];go_wp2;go_roundw
     case rel=>exact ⟨n+1,zw,by go_num,⟨aaF,ap2,cp2,HA.I⟩⟩
     case measure=>simp [Go.RowKit.intOf]; omega
   .have i1: ¬ (n:Int) < (k.parts.length:Int):=zw
    have ek:n=k.parts.length:=zw
    subst ek;obtain ⟨m0,m1,m2,m3,m4⟩:=hkb.cells;clear hkb;have hz0:wr.heap[w.heap.size+1]? =o_ (c_ T9 30):=(HA.I.same _ ZcV ZcV).trans HI.I.ret;have lW:=HA.I.box;have b0:wr.cell? ⟨X,0,n_⟩=o_ (i_ j_ k.bj):=by simp [World.cell?,lW]
    have b1:wr.cell? ⟨X,1,n_⟩=o_ (i_ j_ k.major):=by simp [World.cell?,lW]
    have b2:wr.cell? ⟨X,2,n_⟩=o_ (s_ a0 k.fn.length c0):=by simp [World.cell?,lW]
    have b3:wr.cell? ⟨X,3,n_⟩=o_ (s_ Zj I.length cp):=by simp [World.cell?,lW]
    have b4:wr.cell? ⟨X,4,n_⟩=o_ (s_ a1 k.eC.length c1):=by simp [World.cell?,lW]
    clear lW;go_wp2_with (refine wpList_store_row rfl 30 (.tmp 2) (.tmp 39) rfl _ _ _ #[i_ j_ k.bj,i_ j_ k.major,s_ a0 k.fn.length c0,s_ Zj I.length cp,s_ a1 k.eC.length c1] rfl rfl hz0 ZbY rfl Zcy ?_);refine rtK results24 hz0 ?_;have q0:=HX.I;have q4:=HA.I.size;have ap0:=HI.I.pR;have o1:=HI.I.s0.done rfl;have o2:=HI.I.s1.done rfl;have TX: ∀ g∈blk a0,w.heap.size+2<=g/\g < W3.heap.size/\g≠X:=fun g hg=>⟨(cf o1 hg).1,(cf o1 hg).2,fun e=>ap0.apart 0 3 (by decide) g ZcZ Zcj⟩
    have aao: ∀ g∈blk a1,w.heap.size+2<=g/\g < W3.heap.size/\g≠X:=fun g hg=>⟨(cf o2 hg).1,(cf o2 hg).2,fun e=>ap0.apart 1 3 (by decide) g ZcZ Zcj⟩
    have hpar: ∀ g∈blk Zj ++ I.flatMap af.Mc,W3.heap.size<=g:=fun g hg=>by
     rcases Kg.1 hg with hg | hg
     .exact (cf HA.I.pg.own hg).1
     .obtain ⟨q,hq,hgq⟩:=Rt.1 hg
      exact ((HA.I.pg.mine q hq).lt g hgq).1
    generalize hcs: #[Value.int j_ k.bj,i_ j_ k.major,s_ a0 k.fn.length c0,s_ Zj I.length cp,s_ a1 k.eC.length c1] =cs;have sm: ∀ g,g≠w.heap.size+1->(wr.setRow (w.heap.size+1) cs).heap[g]? =wr.heap[g]? :=fun g h3=>KH _ _ _ _ h3
    have sm1: ∀ g,g < W3.heap.size->g≠X->g≠w.heap.size+1->(wr.setRow (w.heap.size+1) cs).heap[g]? =W3.heap[g]? :=fun g h1 h2 h3=>(sm g h3).trans (HA.I.same g h1 h2)
    have pg2:=HA.I.pg.same (W1:=wr.setRow (w.heap.size+1) cs) fun g hg=>by have:=hpar g hg; exact sm g zw
    have own1:=aL (w':=wr.setRow (w.heap.size+1) cs) o1 fun g hg=>by have:=TX g hg; exact sm1 g zw zw zw
    have abv:=aL (w':=wr.setRow (w.heap.size+1) cs) o2 fun g hg=>by have:=aao g hg; exact sm1 g zw zw zw
    obtain ⟨gw,Fw⟩:=HI.I.som rfl;have hgl:gw < W3.heap.size:=(TX gw (by rw [Fw]; simp [blk])).2.1;refine ⟨⟨k.bj,k.major,k.fn,a0,c0,I,Zj,cp,k.eC,a1,c1⟩,gw,by simp [<- hcs],⟨cq own1 zw,cq pg2.own zw,cq abv zw,fun q hq=>(pg2.mine q hq).lower zw,?_⟩,?_,⟨Fw,by rw [size_setRow]; omega⟩,kz HA.I.cd zw _⟩
    .have hb1: ∀ x:Option d_,(blk x).Nodup:=fun x=>by cases x <;> simp [blk]
     have hn:=Kf.1 HA.I.pg.nodup;refine Kf.2 ⟨hb1 _,Kf.2 ⟨hb1 _,Kf.2 ⟨hb1 _,hn.2.1,fun g hg g' hg' e=> ?_⟩,fun g hg g' hg' e=> ?_⟩,fun g hg g' hg' e=> ?_⟩
     .have:=aao g hg; have:=hpar g' (Ly _ hg'); omega
     .rcases Kg.1 hg' with h5 | h5
      .have:=hpar g (Lz _ hg); have:=aao g' h5; omega
      .exact hn.2.2 g hg g' h5 e
     .have:=TX g hg
      rcases Kg.1 hg' with h5 | h5
      .have:=hpar g' (Lz _ h5); omega
      .rcases Kg.1 h5 with h5 | h5
       .exact ap0.apart 0 1 (by decide) g ZcZ (by rw [e]; simpa [four,bM] using h5)
       .have:=hpar g' (Ly _ h5); omega
    .show kd.mk k.bj k.major k.fn (I.map (·.pure)) k.eC=k.pure
     rw [HA.I.pure,LQ];rfl
end
section
attribute [local go_sem ↓] Kc Kd
structure VT (w:w_) (bi g cap:Nat) (l:List af) (wr:w_):Prop where
 row:bl kp 46 wr bi g cap l
 mine: ∀ p∈l,ap wr bi p
 nodup:(g :: l.flatMap af.Mc).Nodup
 kept:aI w wr (g :: l.flatMap af.Mc)
def VT.apart {w wr:w_} {bi gs cap:Nat} {A B:List af} {x:af} (h:VT w bi gs cap (A ++ x :: B) wr):gs∉x.Mc/\ ∀ y,y∈A\/y∈B-> ∀ b∈y.Mc,b∉x.Mc/\b≠gs:=by
 have hn:=h.nodup;rw [aej,aez,Lp,Kf,Kf] at hn;obtain ⟨h1,h2,⟨h3,h4,h5⟩,h6⟩:=hn;refine ⟨fun hm=>h1 (Ly _ (Lz _ hm)),fun y hy b hb=>⟨fun hx=> ?_,fun e=> ?_⟩⟩
 .rcases hy with hy | hy
  .exact h6 b (Rt.2 ⟨y,hy,hb⟩) b (Lz _ hx) rfl
  .exact h5 b hx b (Rt.2 ⟨y,hy,hb⟩) rfl
 .subst e
  rcases hy with hy | hy
  .exact h1 (Lz _ (Rt.2 ⟨y,hy,hb⟩))
  .exact h1 (Ly _ (Ly _ (Rt.2 ⟨y,hy,hb⟩)))
def VT.ju {w wr W:w_} {bi gs cap:Nat} {A B:List af} {x y:af} (h:VT w bi gs cap (A ++ x :: B) wr) (hr:bl kp 46 W bi gs cap (A ++ y :: B)) (ho:ap W bi y) (hb:y.Mc=x.Mc) (hk:aI wr W (gs :: x.Mc)):VT w bi gs cap (A ++ y :: B) W:=by
 have e:(A ++ y :: B).flatMap af.Mc=(A ++ x :: B).flatMap af.Mc:=by simp only [aej,aez,hb]
 obtain ⟨-,hap⟩:=h.apart;refine ⟨hr,fun z hz=> ?_,by rw [e]; exact h.nodup,by rw [e]; exact h.kept.trans (hk.mono fun b hb2=>by
  rcases Kt.1 hb2 with rfl | hb2
  .exact LA
  .exact LB _ (by rw [aej,aez]; exact Ly _ (Lz _ hb2)))⟩
 have hz2:z=y\/(z∈A\/z∈B):=by
  rcases Kg.1 hz with hz | hz
  .exact .inr (.inl hz)
  .rcases Kt.1 hz with hz | hz
   .exact .inl hz
   .exact .inr (.inr hz)
 rcases hz2 with rfl | hz2
 .exact ho
 .have hmz:ap wr bi z:=h.mine z (by rcases hz2 with hz2 | hz2 <;> simp [hz2])
  exact hmz.same fun b hb2=>hk.same b (hmz.lt b hb2).2 fun hm=>by
   rcases Kt.1 hm with hm | hm
   .exact (hap z hz2 b hb2).2 hm
   .exact (hap z hz2 b hb2).1 hm
def bl.vals {w:w_} {bi g cap:Nat} {A B:List af} {x y:af} (h:bl kp 46 w bi g cap (A ++ x :: B)) (hv:kp.vals y=kp.vals x):bl kp 46 w bi g cap (A ++ y :: B):=by
 obtain ⟨cur,h1,h2,h3,h4,h5,h6⟩:=h;refine ⟨cur,h1,h2,by simpa using h3,h4,h5,?_⟩;have e:kp.flat (A ++ y :: B)=kp.flat (A ++ x :: B):=by simp only [Kind.flat,aej,aez,hv]
 rw [e,<- h6];simp
def eA.Mc (k:eA):List Nat:=blk k.vb ++ (blk k.qn ++ (blk k.qi ++ k.parts.flatMap af.Mc))
section
variable {w w':w_} {bi:Nat} {k:eA}
def gp.apart (h:gp w bi k):(∀ g∈blk k.vb,g∉blk k.qn/\g∉blk k.qi/\g∉k.parts.flatMap af.Mc)/\(∀ g∈blk k.qn,g∉blk k.qi/\g∉k.parts.flatMap af.Mc)/\ ∀ g∈blk k.qi,g∉k.parts.flatMap af.Mc:=by
 obtain ⟨-,h2,h3⟩:=Kf.1 h.nodup;obtain ⟨-,h5,h6⟩:=Kf.1 h2;obtain ⟨-,-,h9⟩:=Kf.1 h5;exact ⟨fun g hg=>⟨fun hm=>h3 g hg g (Lz _ hm) rfl,fun hm=>h3 g hg g (Ly _ (Lz _ hm)) rfl,fun hm=>h3 g hg g (Ly _ (Ly _ hm)) rfl⟩,fun g hg=>⟨fun hm=>h6 g hg g (Lz _ hm) rfl,fun hm=>h6 g hg g (Ly _ hm) rfl⟩,fun g hg hm=>h9 g hg g hm rfl⟩
def gp.lt (h:gp w bi k) {g:Nat} (hg:g∈k.Mc):bi<=g/\g < w.heap.size:=by
 unfold eA.Mc at hg;simp only [Kg] at hg;rcases hg with hg | hg | hg | hg
 .exact cf h.fn hg
 .exact cf h.parts hg
 .exact cf h.eC hg
 .obtain ⟨p,hp,l9⟩:=Rt.1 hg
  exact (h.mine p hp).lt g l9
end
end
end Go.Proofs.YtckenjkcmajicaaGreat
