/- What the proof leans on, part 7. -/
import Derived.Test.YtfncpmaefninjaaGreatDoorOwnQ3
import Derived.Test.YtfncpmaefninjaaGreatDoorOwnQ4
set_option linter.all false
set_option maxRecDepth 100000
set_option maxHeartbeats 8000000
open Go.Proofs.Tryz
open Go renaming World->w_,Value->v_,Calls->k_,Addr->d_,TypeId->T_
open Go.Ending renaming returned->r_
open Go.IntKind renaming i64->j_
open Go.Obj renaming cells->c_
open Go.RowKit renaming Below->B_,Hid->bN
open Go.Value renaming int->i_,slice->s_,bool->b_,string->t_,agg->a_,pointer->p_,tuple->u_
open Option renaming some->o_,none->n_
open Function renaming comp_def->Ls
open Go renaming wp_at_succ->Kd,wp_at_zero->Kc
open Go.Proofs.Tryz renaming prog->J3
open Go.RowKit renaming run_makeMap->P4

open Go.RowKit
namespace Go.Proofs.YtfncpmaefninjaaGreatDoor
section
attribute [local go_sem ↓] Kc Kd
def cW (x:aM):Array v_:= #[i_ j_ x.id,b_ x.I,b_ x.Mf,i_ j_ x.max,s_ x.ak x.Ma.length x.aq]
def jf (w:w_) (x:aM):Prop:=fT w x.ak x.Ma
def jf.below {w w':w_} {x:aM} (h:jf w x) (hb:B_ w.heap.size w w'):jf w' x:=fT.below h hb
def gE {W:w_} {X:Nat} {x:aM} (h:W.heap[X]? =o_ (c_ (cW x) 115)):W.cell? ⟨X,0,n_⟩=o_ (i_ j_ x.id)/\W.cell? ⟨X,1,n_⟩=o_ (b_ x.I)/\W.cell? ⟨X,2,n_⟩=o_ (b_ x.Mf)/\W.cell? ⟨X,3,n_⟩=o_ (i_ j_ x.max)/\W.cell? ⟨X,4,n_⟩=o_ (s_ x.ak x.Ma.length x.aq):=by
 unfold cW at h;simp [World.cell?,h]
def iN (x:aM) (w:w_):k_ J3 267 #[a_ (cW x)] w fun e w'=>e=r_ (i_ j_ x.id)/\B_ w.heap.size w w':=by
 unfold cW
 go_enter func267,ntmps267
 exact ue
def nY (v : v_) (w : w_) : Sem.run J3 (method 433 115 v "loop.example/g00313/impl.number") w = .ok (267, v) w := by kernel_rfl
def vZ (v : v_) (w : w_) : Sem.run J3 (method 433 115 v "loop.example/g00313/impl.right") w = .ok (268, v) w := by kernel_rfl
def sK (w:w_):(zeroValue 169).run J3 w= .ok (p_ n_) w:=by kernel_rfl
def Bb (Me:Int) (b:Nat) (m:df) (id:Int) (w:w_) (h:cF w b m) (hw:(Lit.int j_ id).wf=true):
  k_ J3 134 #[a_ #[i_ j_ Me,.map (o_ b)],i_ j_ id] w fun e w'=>e=r_ (b_ (cz m id).isSome)/\B_ w.heap.size w w':=by
 have hlk:=(h.below ((Kp _ w).alloc (Ki _) (c_ #[i_ j_ Me,.map (o_ b)] 84))).look underlying82 (sK _) hw true;simp only [if_true] at hlk;clear h hw
 go_enter func134,ntmps134
 exact ue
def wG (x:aM) (w:w_) (hf:jf w x):k_ J3 268 #[a_ (cW x)] w fun e w'=>e=r_ (b_ (dj x.todS))/\B_ w.heap.size w w':=by
 have HF:bN (jf w x):=hf;clear hf;obtain ⟨⟨id,I,Mf,max,Ma⟩,ak,aq⟩:=x;unfold cW;cases hp:(cv max 1 5 && dJ Ma max) with
 | false=>
  have HP:bN ((cv max 1 5 && dJ Ma max)=false):=hp;clear hp
  go_enter func268,ntmps268
  go_wp2_with fail;refine (oy ak Ma aq max _ (fT.below HF.I ((Kp _ _).alloc (Ki _) _))).mono ?_;rintro e w1 ⟨rfl,hw1⟩;rw [HP.I];subst hw1;go_wp2;go_ret;exact ⟨al (zS HP.I).symm,(Kp _ _).alloc (Ki _) _⟩
 | true=>
  have HP:bN ((cv max 1 5 && dJ Ma max)=true):=hp;clear hp;by_cases h1:max=1
  all_goals
   have HM:bN (decide (max=1)=(max == 1)):=by show decide (max=1)=(max == 1); by_cases h:max=1 <;> simp [h]
   have h1':(max == 1)=decide (max=1):=HM.I.symm;cases Mf
  all_goals
   have HV:bN (∀ q,dj ⟨id,I,q,max,Ma⟩=(q || decide (max=1))):=Cu HP.I;simp only [h1,decide_true,decide_false] at h1';clear h1
   go_enter func268,ntmps268
   go_wp2_with fail;refine (oy ak Ma aq max _ (fT.below HF.I ((Kp _ _).alloc (Ki _) _))).mono ?_;rintro e w1 ⟨rfl,hw1⟩;rw [HP.I];subst hw1;go_wp2;go_ret;exact ⟨al (by rw [HV.I,HM.I]; simp [h1']),(Kp _ _).alloc (Ki _) _⟩
end
section
open Go.Maps
attribute [local go_sem ↓] Kc Kd
def aR:gd ao:=⟨aX,fun x=>x.id,41,45,4,fun x=>x.aY,fun x=>x.bH,fun x=>x.prog.length,fun x=>fk.flat x.prog,fun x a c=> { x with aY:=a,bH:=c },fun _ _ _=>rfl,fun _ _ _=>rfl,fun _ _ _=>rfl,fun _ _ _=>rfl,fun _ _ _=>rfl,fun _ _ _ _ _=>rfl⟩
def aC:gd au:=⟨bQ,fun x=>x.id,96,9,1,fun x=>x.ak,fun x=>x.aq,fun x=>x.Ma.length,fun x=>bT.flat x.Ma,fun x a c=> { x with ak:=a,aq:=c },fun _ _ _=>rfl,fun _ _ _=>rfl,fun _ _ _=>rfl,fun _ _ _=>rfl,fun _ _ _=>rfl,fun _ _ _ _ _=>rfl⟩
def aU:gd aM:=⟨cW,fun x=>x.id,115,9,1,fun x=>x.ak,fun x=>x.aq,fun x=>x.Ma.length,fun x=>bT.flat x.Ma,fun x a c=> { x with ak:=a,aq:=c },fun _ _ _=>rfl,fun _ _ _=>rfl,fun _ _ _=>rfl,fun _ _ _=>rfl,fun _ _ _=>rfl,fun _ _ _ _ _=>rfl⟩
def fY {α:Type} (N:gd α) (w:w_) (bj:Nat) (l:List (α × Nat)):Prop:= ∀ p∈l,Row w (N.ad p.1) (N.flat p.1)/\N.len p.1<=1048576/\ ∀ g,N.bt p.1=o_ g->g < bj
def fY.low {α:Type} {N:gd α} {w w':w_} {bj:Nat} {l:List (α × Nat)} (h:fY N w bj l) (hb:B_ bj w w'):fY N w' bj l:=fun p hp=>
 ⟨(h p hp).1.low (fun q e=>(h p hp).2.2 q.block (by simp [gd.bt,e])) hb,(h p hp).2⟩
def D5:(Tryz.prog.info? 45).map (fun i=>(i.zero,i.size,i.bytes))=o_ (o_ (a_ #[i_ j_ 0,i_ j_ 0,i_ j_ 0,t_ ⟨#[]⟩]),4,40):=by kernel_rfl
def zD:(Tryz.prog.info? 9).map (fun i=>(i.zero,i.size,i.bytes))=o_ (o_ (t_ ⟨#[]⟩),1,16):=by kernel_rfl
def FE {l:List dN} : ∀ u∈fk.flat l,u.oneCell'=true:=fun u hu=>by
 obtain ⟨x,_,hx⟩:=Rt.1 hu;simp only [fk,CC,Kt,Ku,or_false] at hx;rcases hx with rfl | rfl | rfl | rfl <;> rfl
def yK {l:List ByteArray} : ∀ u∈bT.flat l,u.oneCell'=true:=fun u hu=>by
 obtain ⟨x,_,hx⟩:=Rt.1 hu;simp only [bT,Kt,Ku,or_false] at hx;subst hx;rfl
def FR (w:w_) (a:Option d_) (l:List dN) (cap:Nat) (h:Row w a (fk.flat l)) (hl:l.length<=1048576):
  ∃ a' cap' w',(Builtin.append_ #[39,39] 39 #[s_ n_ 0 0,s_ a l.length cap]).run J3 w= .ok (s_ a' l.length cap') w'/\w'.ownsRow w.heap.size 45 4 (s_ a' l.length cap') l.length (fk.flat l)/\w.grownBy w' n_:=by
 obtain ⟨i,hi,e⟩:=Kw.1 D5;simp only [Kx] at e;exact sZ w _ _ 45 i _ 4 40 underlying39 hi e.1 e.2.1 e.2.2 rfl (by decide) a l.length cap _ h (fk.dM l) FE hl (by decide)
def xF (w:w_) (a:Option d_) (l:List ByteArray) (cap:Nat) (h:Row w a (bT.flat l)) (hl:l.length<=1048576):
  ∃ a' cap' w',(Builtin.append_ #[94,94] 94 #[s_ n_ 0 0,s_ a l.length cap]).run J3 w= .ok (s_ a' l.length cap') w'/\w'.ownsRow w.heap.size 9 1 (s_ a' l.length cap') l.length (bT.flat l)/\w.grownBy w' n_:=by
 obtain ⟨i,hi,e⟩:=Kw.1 zD;simp only [Kx] at e;exact sZ w _ _ 9 i _ 1 16 underlying94 hi e.1 e.2.1 e.2.2 rfl (by decide) a l.length cap _ h (bT.dM l) yK hl (by decide)
structure kG {α:Type} (N:gd α) (w0 wr:w_) (bj b:Nat) (l l':List (α × Nat)):Prop where
 eh:Shelf N.vs N.num N.T wr bj b l'
 alike:l'.map (fun p=>(N.set p.1 n_ 0,p.2))=l.map (fun p=>(N.set p.1 n_ 0,p.2))
 mine: ∀ p∈l',N.cO wr w0.heap.size p.1
 nodup:(kids N l').Nodup
 os:wr.os=w0.os
 tape:wr.tape=w0.tape
 output:wr.output=w0.output
 size:w0.heap.size<=wr.heap.size
 same: ∀ g,g < w0.heap.size->g∉l.map (·.2)->wr.heap[g]? =w0.heap[g]?
def fS.owned {α:Type} {N:gd α} {w0 wr:w_} {bj b:Nat} {l l':List (α × Nat)} {left:Lit->Bool} (h:fS N w0 wr bj b l l' left) (hd: ∀ kl,left kl=false):kG N w0 wr bj b l l':=
 ⟨h.eh,h.alike,fun p hp=>h.own p hp (hd _),h.nodup hd,h.os,h.tape,h.output,h.size,h.same⟩
def kG.below {α:Type} {N:gd α} {w0 wr:w_} {bj b:Nat} {l l':List (α × Nat)} (h:kG N w0 wr bj b l l') (hb:bj<=w0.heap.size) (hl: ∀ g∈l.map (·.2),bj<=g):B_ bj w0 wr:=
 ⟨h.os,h.tape,h.output,h.size,fun g hg=>h.same g zo (fun hm=>by have:=hl g hm; omega)⟩
structure mv (w:w_) (bj o:Nat) (q:ol) (lp:List (ao × Nat)) (lf:List (au × Nat)) (lq:List (aM × Nat)):Prop where
 opn:fa w o q
 L8:Shelf aX (fun x:ao=>x.id) 41 w bj q.bp lp
 ae:Shelf bQ (fun x:au=>x.id) 96 w bj q.bf lf
 ai:Shelf cW (fun x:aM=>x.id) 115 w bj q.bq lq
 nodup:(o :: ((q.bp :: lp.map (·.2)) ++ ((q.bf :: lf.map (·.2)) ++ (q.bq :: lq.map (·.2))))).Nodup
def mv.EK {w w':w_} {bj o:Nat} {q:ol} {lp l':List (ao × Nat)} {lf:List (au × Nat)} {lq:List (aM × Nat)} (h:mv w bj o q lp lf lq) (ho:kG aR w w' bj q.bp lp l'):mv w' bj o q l' lf lq:=by
 have hbl:l'.map (·.2)=lp.map (·.2):=by
  have:=congrArg (List.map (·.2)) ho.alike
  exact Zao
 have hn:=h.nodup;rw [Lp,Kf] at hn;obtain ⟨h1,h2,h3,h4⟩:=hn;have hlp: ∀ g,g∈(q.bf :: lf.map (·.2)) ++ (q.bq :: lq.map (·.2))->g∉lp.map (·.2):=fun g hg hm=>h4 g (LB _ hm) g hg rfl
 refine ⟨(ho.same o (J2.1 h.opn).1 (fun hm=>h1 (by simp [Lr.1 hm]))).trans h.opn,ho.eh,h.ae.same fun g hg=>ho.same g (h.ae.lt g hg) (hlp g (Lz _ hg)),h.ai.same fun g hg=>ho.same g (h.ai.lt g hg) (hlp g (Ly _ hg)),?_⟩;rw [hbl];exact h.nodup
def mv.Af {w w':w_} {bj o:Nat} {q:ol} {lp:List (ao × Nat)} {lf l':List (au × Nat)} {lq:List (aM × Nat)} (h:mv w bj o q lp lf lq) (ho:kG aC w w' bj q.bf lf l'):mv w' bj o q lp l' lq:=by
 have hbl:l'.map (·.2)=lf.map (·.2):=by
  have:=congrArg (List.map (·.2)) ho.alike
  exact Zao
 have hn:=h.nodup;rw [Lp,Kf,Kf] at hn;obtain ⟨h1,h2,⟨h3,h5,h6⟩,h4⟩:=hn;refine ⟨(ho.same o (J2.1 h.opn).1 (fun hm=>h1 (by simp [Lr.1 hm]))).trans h.opn,h.L8.same fun g hg=>ho.same g (h.L8.lt g hg) (fun hm=>h4 g hg g (Lz _ (LB _ hm)) rfl),ho.eh,h.ai.same fun g hg=>ho.same g (h.ai.lt g hg) (fun hm=>h6 g (LB _ hm) g hg rfl),?_⟩;rw [hbl];exact h.nodup
def wO (o bj:Nat) (q:ol) (lp:List (ao × Nat)) (lf:List (au × Nat)) (lq:List (aM × Nat)) (w:w_) (h:mv w bj o q lp lf lq) (hb:bj<=w.heap.size) (h1:fY aR w bj lp) (h2:fY aC w bj lf) (h3:fY aU w bj lq):
  k_ J3 58 #[p_ (o_ ⟨o,0,n_⟩)] w fun e w'=>e=r_ (u_ #[])/\ ∃ w1 w2 l0 l1 l2,kG aR w w1 bj q.bp lp l0/\kG aC w1 w2 bj q.bf lf l1/\kG aU w2 w' bj q.bq lq l2:=by
 have HT:bN (mv w bj o q lp lf lq):=h;have Fy:bN (bj<=w.heap.size):=hb;have Ia:bN (∀ g∈lp.map (·.2),bj<=g):=fun g hg=>h.L8.low g (LB _ hg)
 have HLP:bN (fY aR w bj lp):=h1;have I8:bN (fY aC w bj lf):=h2;have ID:bN (fY aU w bj lq):=h3;clear h hb h1 h2 h3
 go_enter func58,ntmps58
 have c0:w.cell? ⟨o,3,n_⟩=o_ (.map (o_ q.bp)):=HT.I.opn.cell 3;have hown:=HT.I.L8.map.1;go_wp2_with (at_range; refine wpList_range_own _ rfl _ 67 rfl 2 64 jb underlying67 od q.bp _ _ rfl hown ?_; intro w1 BW CT hs1);have HS:bN (fS aR w w1 bj q.bp lp lp (Maps.has (gA (RW aR.num lp)))):=fS.start HT.I.L8 CT;have En:bN (∀ g∈q.bp :: lp.map (·.2),g < w.heap.size):=HT.I.L8.lt;clear hown c0 CT
 go_frame
 go_loopw [3] (fun _ tD=> ∃ (left:Lit->Bool) (cnt:Nat) (l':List (ao × Nat)),tD.ranges J3 2 od q.bp w.heap.size (RW (fun x:ao=>x.id) lp).length (gA (RW (fun x:ao=>x.id) lp)) left cnt/\bN (fS aR w tD bj q.bp lp l' left)) (fun _ tD=>tD.rangeLeft q.bp w.heap.size)
 case atStart=>exact ⟨_,_,lp,BW,HS.I⟩
 case round=>
  rename w_=>tD
  clear HS BW hs1 w1;obtain ⟨left,cnt,l0,hrg,HO⟩:=hrel;go_wp2_with (at_next; refine wpList_next_ranges _ rfl _ rfl 2 jb od (Value.int j_) dt (fun key kl hk=>by obtain ⟨x,rfl,_⟩:=RB underlying2 hk; exact ⟨x,rfl⟩) (fun v y hv=>by obtain ⟨g,rfl,_⟩:=oI hv; exact ⟨g,rfl⟩) q.bp w.heap.size _ _ _ _ rfl hrg ?_ ?_)
  .intro hc0 hl0
   have VH:bN (kG aR w tD bj q.bp lp l0):=HO.I.owned hl0;clear hrg HO hc0 hl0 En left cnt;have HTN:bN (mv tD bj o q l0 lf lq):=HT.I.EK VH.I;clear HT;have HT:bN (mv tD bj o q l0 lf lq):=HTN.I;have HLI:bN (fY aC tD bj lf/\fY aU tD bj lq):=⟨I8.I.low (VH.I.below Fy.I Ia.I),ID.I.low (VH.I.below Fy.I Ia.I)⟩
   have HBN:bN (bj<=tD.heap.size):=LG Fy.I VH.I.size;clear HTN Fy Ia HLP;have Fy:bN (bj<=tD.heap.size):=HBN.I;have Ia:bN (∀ g∈lf.map (·.2),bj<=g):=fun g hg=>HT.I.ae.low g (LB _ hg)
   clear I8 ID;have I8:bN (fY aC tD bj lf):=HLI.I.1;have ID:bN (fY aU tD bj lq):=HLI.I.2;clear HLI HBN;have c1:tD.cell? ⟨o,11,n_⟩=o_ (.map (o_ q.bf)):=HT.I.opn.cell 11;have hown:=HT.I.ae.map.1;go_wp2_with (at_range; refine wpList_range_own _ rfl _ 79 rfl 2 168 jb underlying79 od q.bf _ _ rfl hown ?_; intro w1 BW CT hs1);have HS:bN (fS aC tD w1 bj q.bf lf lf (Maps.has (gA (RW aC.num lf)))):=fS.start HT.I.ae CT;have Jt:bN (∀ g∈q.bf :: lf.map (·.2),g < tD.heap.size):=HT.I.ae.lt;clear hown c1 CT
   go_frame
   go_loopw [5] (fun _ wr2=> ∃ (left:Lit->Bool) (cnt:Nat) (l':List (au × Nat)),wr2.ranges J3 2 od q.bf tD.heap.size (RW (fun x:au=>x.id) lf).length (gA (RW (fun x:au=>x.id) lf)) left cnt/\bN (fS aC tD wr2 bj q.bf lf l' left)) (fun _ wr2=>wr2.rangeLeft q.bf tD.heap.size)
   case atStart=>exact ⟨_,_,lf,BW,HS.I⟩
   case round=>
    rename w_=>wr2
    clear HS BW hs1 w1;obtain ⟨left,cnt,l1,hrg,HO⟩:=hrel;go_wp2_with (at_next; refine wpList_next_ranges _ rfl _ rfl 2 jb od (Value.int j_) dt (fun key kl hk=>by obtain ⟨x,rfl,_⟩:=RB underlying2 hk; exact ⟨x,rfl⟩) (fun v y hv=>by obtain ⟨g,rfl,_⟩:=oI hv; exact ⟨g,rfl⟩) q.bf tD.heap.size _ _ _ _ rfl hrg ?_ ?_)
    .intro hc0 hl0
     have HD1:bN (kG aC tD wr2 bj q.bf lf l1):=HO.I.owned hl0;clear hrg HO hc0 hl0 Jt left cnt;have HTN:bN (mv wr2 bj o q l0 l1 lq):=HT.I.Af HD1.I;clear HT;have HT:bN (mv wr2 bj o q l0 l1 lq):=HTN.I;have HLI:bN (fY aU wr2 bj lq):=ID.I.low (HD1.I.below Fy.I Ia.I);have HBN:bN (bj<=wr2.heap.size):=LG Fy.I HD1.I.size;clear HTN Fy Ia I8;have Fy:bN (bj<=wr2.heap.size):=HBN.I;have Ia:bN (∀ g∈lq.map (·.2),bj<=g):=fun g hg=>HT.I.ai.low g (LB _ hg)
     clear ID;have ID:bN (fY aU wr2 bj lq):=HLI.I;clear HLI HBN;have c2:wr2.cell? ⟨o,13,n_⟩=o_ (.map (o_ q.bq)):=HT.I.opn.cell 13;have hown:=HT.I.ai.map.1;go_wp2_with (at_range; refine wpList_range_own _ rfl _ 82 rfl 2 169 jb underlying82 od q.bq _ _ rfl hown ?_; intro w1 BW CT hs1);have HS:bN (fS aU wr2 w1 bj q.bq lq lq (Maps.has (gA (RW aU.num lq)))):=fS.start HT.I.ai CT;have HL2:bN (∀ g∈q.bq :: lq.map (·.2),g < wr2.heap.size):=HT.I.ai.lt;clear hown c2 CT
     go_frame
     go_loopw [7] (fun _ wr3=> ∃ (left:Lit->Bool) (cnt:Nat) (l':List (aM × Nat)),wr3.ranges J3 2 od q.bq wr2.heap.size (RW (fun x:aM=>x.id) lq).length (gA (RW (fun x:aM=>x.id) lq)) left cnt/\bN (fS aU wr2 wr3 bj q.bq lq l' left)) (fun _ wr3=>wr3.rangeLeft q.bq wr2.heap.size)
     case atStart=>exact ⟨_,_,lq,BW,HS.I⟩
     case round=>
      rename w_=>wr3
      clear HS BW hs1 w1;obtain ⟨left,cnt,l2,hrg,HO⟩:=hrel;go_wp2_with (at_next; refine wpList_next_ranges _ rfl _ rfl 2 jb od (Value.int j_) dt (fun key kl hk=>by obtain ⟨x,rfl,_⟩:=RB underlying2 hk; exact ⟨x,rfl⟩) (fun v y hv=>by obtain ⟨g,rfl,_⟩:=oI hv; exact ⟨g,rfl⟩) q.bq wr2.heap.size _ _ _ _ rfl hrg ?_ ?_)
      .intro hc0 hl0
       have HD2:bN (kG aU wr2 wr3 bj q.bq lq l2):=HO.I.owned hl0;clear hrg HO hc0 hl0 HL2 left cnt;go_wp2
       go_end0
       exact ⟨rfl,tD,wr2,l0,l1,l2,VH.I,HD1.I,HD2.I⟩
      .intro x c kl y1 y2 w2 cnt2 hkey hlk hv hat hrg2 oX rx oE hen
       obtain ⟨p,hp,rfl,rfl,rfl⟩:=HO.I.pick hkey hv hat;have hpl:p.2∈lq.map (·.2):=by rw [<- HO.I.Mc]; exact Lr.2 ⟨p,hp,rfl⟩
       have td:=HO.I.old p hp hlk;have hpw:=HL2.I p.2 (LB _ hpl);have lD:w2.heap[p.2]? =o_ (c_ (cW p.1) 115):=(rx.block p.2 (Kn hpw HO.I.size) (fun e=>by have:=KC e; omega)).trans (HO.I.eh.box p hp);have hrow:Row w2 p.1.ak (bT.flat p.1.Ma):=(ID.I p td).1.same fun g e=>by
        have hgb:g < bj:=(ID.I p td).2.2 g Zc4;exact Q_
       obtain ⟨a3,UY,w3,hap,sY,hg3⟩:=xF w2 p.1.ak p.1.Ma p.1.aq hrow (ID.I p td).2.1;have cc:w2.cell? ⟨p.2,4,n_⟩=o_ (s_ p.1.ak p.1.Ma.length p.1.aq):=by simp [World.cell?,lD,cW]
       have oG:=(hg3.block p.2 (J2.1 lD).1 zw).trans lD;have cc3:w3.cell? ⟨p.2,4,n_⟩=o_ (s_ p.1.ak p.1.Ma.length p.1.aq):=by simp [World.cell?,oG,cW]
       have cf3:w3.frozen? ⟨p.2,4,n_⟩=false:=by simp [World.frozen?,oG]
       have HN:=HO.I.ju (i:=4) hrg rx hrg2 HL2.I (Ki _) hp sY hg3 rfl;have Hb:bN (_/\_):=HN;have j6:bN (cnt2 < cnt/\wr3.rangeLeft q.bq wr2.heap.size=cnt):=⟨oX,hrg.left_eq⟩
       exact Q1
    .intro x c kl y1 y2 w2 cnt2 hkey hlk hv hat hrg2 oX rx oE hen
     obtain ⟨p,hp,rfl,rfl,rfl⟩:=HO.I.pick hkey hv hat;have hpl:p.2∈lf.map (·.2):=by rw [<- HO.I.Mc]; exact Lr.2 ⟨p,hp,rfl⟩
     have td:=HO.I.old p hp hlk;have hpw:=Jt.I p.2 (LB _ hpl);have lD:w2.heap[p.2]? =o_ (c_ (bQ p.1) 96):=(rx.block p.2 (Kn hpw HO.I.size) (fun e=>by have:=KC e; omega)).trans (HO.I.eh.box p hp);have hrow:Row w2 p.1.ak (bT.flat p.1.Ma):=(I8.I p td).1.same fun g e=>by
      have hgb:g < bj:=(I8.I p td).2.2 g Zc4;exact Q_
     obtain ⟨a3,UY,w3,hap,sY,hg3⟩:=xF w2 p.1.ak p.1.Ma p.1.aq hrow (I8.I p td).2.1;have cc:w2.cell? ⟨p.2,2,n_⟩=o_ (s_ p.1.ak p.1.Ma.length p.1.aq):=by simp [World.cell?,lD,bQ]
     have oG:=(hg3.block p.2 (J2.1 lD).1 zw).trans lD;have cc3:w3.cell? ⟨p.2,2,n_⟩=o_ (s_ p.1.ak p.1.Ma.length p.1.aq):=by simp [World.cell?,oG,bQ]
     have cf3:w3.frozen? ⟨p.2,2,n_⟩=false:=by simp [World.frozen?,oG]
     have HN:=HO.I.ju (i:=2) hrg rx hrg2 Jt.I (Ki _) hp sY hg3 rfl;have Hb:bN (_/\_):=HN;have j6:bN (cnt2 < cnt/\wr2.rangeLeft q.bf tD.heap.size=cnt):=⟨oX,hrg.left_eq⟩
     exact Q1
  .intro x c kl y1 y2 w2 cnt2 hkey hlk hv hat hrg2 oX rx oE hen
   obtain ⟨p,hp,rfl,rfl,rfl⟩:=HO.I.pick hkey hv hat;have hpl:p.2∈lp.map (·.2):=by rw [<- HO.I.Mc]; exact Lr.2 ⟨p,hp,rfl⟩
   have td:=HO.I.old p hp hlk;have hpw:=En.I p.2 (LB _ hpl);have lD:w2.heap[p.2]? =o_ (c_ (aX p.1) 41):=(rx.block p.2 (Kn hpw HO.I.size) (fun e=>by have:=KC e; omega)).trans (HO.I.eh.box p hp);have hrow:Row w2 p.1.aY (fk.flat p.1.prog):=(HLP.I p td).1.same fun g e=>by
    have hgb:g < bj:=(HLP.I p td).2.2 g (by show (p.1.aY).map (·.block)=o_ g; rw [show p.1.aY=o_ ⟨g,0,n_⟩ from e]; rfl);exact Q_
   obtain ⟨a3,UY,w3,hap,sY,hg3⟩:=FR w2 p.1.aY p.1.prog p.1.bH hrow (HLP.I p td).2.1;have cc:w2.cell? ⟨p.2,2,n_⟩=o_ (s_ p.1.aY p.1.prog.length p.1.bH):=by simp [World.cell?,lD,aX]
   have oG:=(hg3.block p.2 (J2.1 lD).1 zw).trans lD;have cc3:w3.cell? ⟨p.2,2,n_⟩=o_ (s_ p.1.aY p.1.prog.length p.1.bH):=by simp [World.cell?,oG,aX]
   have cf3:w3.frozen? ⟨p.2,2,n_⟩=false:=by simp [World.frozen?,oG]
   have HN:=HO.I.ju (i:=2) hrg rx hrg2 En.I (Ki _) hp sY hg3 rfl;have Hb:bN (_/\_):=HN;have j6:bN (cnt2 < cnt/\tD.rangeLeft q.bp w.heap.size=cnt):=⟨oX,hrg.left_eq⟩
   simp only [dt] at hen;clear HN hrg hrg2 rx oE hkey hlk hv hat oX hpl td hpw lD oG hrow sY hg3;unfold dt;go_wp2_with (at_builtin; refine br _ rfl _ _ 39 rfl _ _ _ _ rfl rfl hap ?_; clear hap);go_roundw
   case rel=>exact ⟨_,_,_,Hb.I.2,Hb.I.1⟩
   case measure=>have h5:=Hb.I.2.left_eq; have h6:=j6.I; rw [h6.2]; exact Q5 (Nat.le_of_eq h5) h6.1
end
section
attribute [local go_sem ↓] Kc Kd
def vk (w:w_) (b:Nat) (m:df) (Me:Int) (x:aM) (w':w_):Prop:=(w'.cell? ⟨w.heap.size,0,n_⟩=o_ (i_ j_ Me)/\w'.cell? ⟨w.heap.size,1,n_⟩=o_ (.map (o_ b))/\(∀ ty,(Builtin.len_ #[82] ty #[.map (o_ b)]).run J3 w'= .ok (i_ j_ (m.length:Int)) w')/\w'.cell? ⟨w.heap.size+1,0,n_⟩=o_ (i_ j_ x.id)/\w'.cell? ⟨w.heap.size+1,1,n_⟩=o_ (b_ x.I)/\w'.cell? ⟨w.heap.size+1,2,n_⟩=o_ (b_ x.Mf)/\w'.cell? ⟨w.heap.size+1,3,n_⟩=o_ (i_ j_ x.max)/\w'.cell? ⟨w.heap.size+1,4,n_⟩=o_ (s_ x.ak x.Ma.length x.aq))/\bN (fe w w' w.heap.size (w.heap.size+1) b m Me (cW x) 115 84)/\bN (jf w' x)
def iW {w w':w_} {b:Nat} {m:df} {Me:Int} {x:aM} (h:fe w w' w.heap.size (w.heap.size+1) b m Me (cW x) 115 84) (hf:jf w' x):vk w b m Me x w':=
 ⟨⟨h.cells.1,h.cells.2,fun ty=>h.mp.len underlying82 ty,gE h.bx⟩,h,hf⟩
def tb (Me:Int) (b:Nat) (m:df) (x:aM) (w:w_) (h:cF w b m) (hw:(Lit.int j_ x.id).wf=true) (hm:m.length<=1048576) (hf:jf w x):
  k_ J3 100 #[a_ #[i_ j_ Me,.map (o_ b)],a_ (cW x)] w fun e w'=>dD w b m (iI Me m x.id (dj x.todS)) x.id (cW x) 115 e w':=by
 have HF:bN (fe w ((w.alloc (c_ #[i_ j_ Me,.map (o_ b)] 84)).alloc (c_ (cW x) 115)) w.heap.size (w.heap.size+1) b m Me (cW x) 115 84):=fe.start w h Me _ _ _;have HW:bN ((Lit.int j_ x.id).wf=true/\ ¬ w.heap.size+1=b/\m.length<=1048576):=⟨hw,by have:=h.lt; omega,hm⟩
 have HI:bN (jf ((w.alloc (c_ #[i_ j_ Me,.map (o_ b)] 84)).alloc (c_ (cW x) 115)) x):=hf.below ((((Kp _ w).alloc (Ki _) _)).alloc zw _);have hmn:=nY;have hmr:=vZ;obtain ⟨s0,s1⟩:=HF.I.cells;obtain ⟨c0,c1,c2,c3,c4⟩:=gE HF.I.bx;clear h hw hf hm;unfold cW at *
 go_enter func100,ntmps100
 go_wp2_with fail;clear s0 s1 c0 c1 c2 c3 c4;obtain ⟨vA,hA⟩: ∃ v,(cz m x.id).isSome=v:=⟨_,rfl⟩
 obtain ⟨vB,F6⟩: ∃ v,decide (Me<=(m.length:Int))=v:=⟨_,rfl⟩
 obtain ⟨vC,hC⟩: ∃ v,cv x.id 1 1000=v:=⟨_,rfl⟩
 obtain ⟨vD,hD⟩: ∃ v,dj x.todS=v:=⟨_,rfl⟩
 have HL:bN (iI Me m x.id (dj x.todS)=(!vA && !vB && vC && vD)/\(vA=false->cz m x.id=n_)):=⟨pi hA F6 hC hD,fun e=>PX.1 (PY.1 (hA.trans e))⟩
 have HA:bN (Ending.returned (b_ (cz m x.id).isSome)=r_ (b_ vA)):=al hA;have HC:bN (Ending.returned (b_ (cv x.id 1 1000))=r_ (b_ vC)):=al hC;have HD:bN (Ending.returned (b_ (dj x.todS))=r_ (b_ vD)):=al hD;clear hA hC hD;refine aT (vk w b m Me x) Zcq (iW HF.I.drew (HI.I.below (Kp _ _).drew)) ?_
 iterate 3 (refine agj ?_)
 (refine cl (i_ j_ x.id) 267 #[a_ #[i_ j_ x.id,b_ x.I,b_ x.Mf,i_ j_ x.max,s_ x.ak x.Ma.length x.aq]] ?_ ?_ ?_; (intro w0 hS0; obtain ⟨⟨q0,q1,q2,q3,q4,q5,q6,q7⟩,hH⟩:=hS0; go_simp; try with_reducible rfl); (intro w0 hS0; refine (iN x w0).mono ?_; rintro e w2 ⟨rfl,hb2⟩; exact ⟨rfl,iW (hS0.2.1.I.below hb2) (hS0.2.2.I.below hb2)⟩); simp only [pt,sb,s0,s1])
 (refine cl (b_ vA) 134 #[a_ #[i_ j_ Me,.map (o_ b)],i_ j_ x.id] ?_ ?_ ?_; (intro w0 hS0; obtain ⟨⟨q0,q1,q2,q3,q4,q5,q6,q7⟩,hH⟩:=hS0; go_simp; try with_reducible rfl); (intro w0 hS0; refine (Bb Me b m x.id w0 hS0.2.1.I.mp HW.I.1).mono ?_; rintro e w2 ⟨rfl,hb2⟩; exact ⟨HA.I,iW (hS0.2.1.I.below hb2) (hS0.2.2.I.below hb2)⟩); simp only [pt,sb,s0,s1])
 (refine agj ?_)
 rcases vA.eq_false_or_eq_true with rfl | rfl
 focus iterate 6 (refine nl ?_; simp only [pt,sb,s0,s1])
 rotate_left
 focus iterate 6 (refine agj ?_)
 all_goals iterate 2 (refine agj ?_)
 rcases vB.eq_false_or_eq_true with rfl | rfl
 focus iterate 5 (refine nl ?_; simp only [pt,sb,s0,s1])
 rotate_left
 focus
  iterate 2 (refine agj ?_)
  (refine cl (i_ j_ x.id) 267 #[a_ #[i_ j_ x.id,b_ x.I,b_ x.Mf,i_ j_ x.max,s_ x.ak x.Ma.length x.aq]] ?_ ?_ ?_; (intro w0 hS0; obtain ⟨⟨q0,q1,q2,q3,q4,q5,q6,q7⟩,hH⟩:=hS0; go_simp; try with_reducible rfl); (intro w0 hS0; refine (iN x w0).mono ?_; rintro e w2 ⟨rfl,hb2⟩; exact ⟨rfl,iW (hS0.2.1.I.below hb2) (hS0.2.2.I.below hb2)⟩); simp only [pt,sb,s0,s1])
  (refine cl (b_ vC) 129 #[i_ j_ x.id] ?_ ?_ ?_; (intro w0 hS0; obtain ⟨⟨q0,q1,q2,q3,q4,q5,q6,q7⟩,hH⟩:=hS0; go_simp; try with_reducible rfl); (intro w0 hS0; refine (eW x.id w0).mono ?_; rintro e w2 ⟨rfl,rfl⟩; exact ⟨HC.I,hS0⟩); simp only [pt,sb,s0,s1])
  (refine agj ?_)
 rotate_left
 focus iterate 5 (refine nl ?_; simp only [pt,sb,s0,s1])
 all_goals iterate 2 (refine agj ?_)
 rotate_right
 rcases vC.eq_false_or_eq_true with rfl | rfl
 focus
  iterate 2 (refine agj ?_)
  (refine cl (b_ vD) 268 #[a_ #[i_ j_ x.id,b_ x.I,b_ x.Mf,i_ j_ x.max,s_ x.ak x.Ma.length x.aq]] ?_ ?_ ?_; (intro w0 hS0; obtain ⟨⟨q0,q1,q2,q3,q4,q5,q6,q7⟩,hH⟩:=hS0; go_simp; try with_reducible rfl); (intro w0 hS0; refine (wG x w0 hS0.2.2.I).mono ?_; rintro e w2 ⟨rfl,hb2⟩; exact ⟨HD.I,iW (hS0.2.1.I.below hb2) (hS0.2.2.I.below hb2)⟩); simp only [pt,sb,s0,s1])
  (refine agj ?_)
 rotate_left
 focus iterate 4 (refine nl ?_; simp only [pt,sb,s0,s1])
 rotate_left
 focus iterate 4 (refine nl ?_; simp only [pt,sb,s0,s1])
 rotate_left
 focus iterate 4 (refine nl ?_; simp only [pt,sb,s0,s1])
 rotate_left
 all_goals (refine agj ?_)
 all_goals refine bk Zcq ?_ _
 all_goals intro w1 cm
 rcases vD.eq_false_or_eq_true with rfl | rfl;rotate_left
 iterate 4
  exact ZaC
 go_wp2_with fail;refine eD (vk w b m Me x) 5 Zcq (iW cm.2.1.I.drew (cm.2.2.I.below (Kp _ _).drew)) ?_
 iterate 4 (refine ly 6 (v:= ?_) (o_ _) rfl rfl Zcq (fun _ _ _ h=>h) (bV Zcq ?_) ?_; rotate_left; (intro w0 hS0; obtain ⟨⟨q0,q1,q2,q3,q4,q5,q6,q7⟩,hH⟩:=hS0; go_simp; try with_reducible rfl); simp only [pt,sb,s0,s1])
 refine ly 6 (v:=i_ j_ x.id) (o_ _) rfl rfl Zcq (fun _ _ _ h=>h) (iZ (f:=267) (args:= #[a_ #[i_ j_ x.id,b_ x.I,b_ x.Mf,i_ j_ x.max,s_ x.ak x.Ma.length x.aq]]) Zcq ?_ ?_) ?_
 .intro w0 hS0
  obtain ⟨⟨q0,q1,q2,q3,q4,q5,q6,q7⟩,hH⟩:=hS0
  exact BC
 .intro w0 hS0
  refine (iN x w0).mono ?_;rintro e w2 ⟨rfl,hb2⟩;exact ⟨rfl,iW (hS0.2.1.I.below hb2) (hS0.2.2.I.below hb2)⟩
 simp only [pt,sb,s0,s1];refine fL rfl Zcq Zcq Zcq ?_;intro w1 cm;obtain ⟨w2,hput,hend⟩:=cm.2.1.I.put zo underlying82 HW.I.1 (HL.I.2 (by trivial)) HW.I.2.2 HW.I.2.1;have HE:bN (dD w b m true x.id (cW x) 115 (r_ (b_ true)) w2):=hend;exact Zac
def F3 (w:w_) (Me:Int) (da:List aM) (k:Nat) (wr:w_):Prop:=
 ∃ l:List (aM × Nat),l.map (·.1)=da.take k/\eS cW (fun x:aM=>x.id) 115 84 w wr Me l/\aw (fun x:aM=>x.id) (fun x:aM=>dj x.todS) 0 (da.take k)=true/\(k:Int)<=max Me 0
def tB (a:Option d_) (da:List aM) (cap:Nat) (Me:Int) (w:w_) (hl:da.length<=1048576) (h:bX.bU w a da) (hf: ∀ x∈da,jf w x) (hw: ∀ x∈da,(Lit.int j_ x.id).wf=true):
  k_ J3 55 #[s_ a da.length cap,i_ j_ Me] w fun e w'=>jN cW (fun x:aM=>x.id) 115 w Me (aw (fun x:aM=>x.id) (fun x:aM=>dj x.todS) 0 da && decide ((da.length:Int)<=max Me 0)) da e w':=by
 have hmk:=P4 (P:=J3) 82;have hmn:=nY;have H0:bN (eS cW (fun x:aM=>x.id) 115 84 w (((w.alloc (c_ #[i_ j_ 0,.map n_] 84)).alloc (.map #[] 0)).alloc (c_ #[i_ j_ Me,.map (o_ (w.heap.size+1))] 84)) Me []):=eS.start 84 w Me;have HL:bN (bX.bU w a da/\(∀ x∈da,jf w x)/\ ∀ x∈da,(Lit.int j_ x.id).wf=true):=⟨h,hf,hw⟩
 clear h hf hw;generalize hTB:(aw (fun x:aM=>x.id) (fun x:aM=>dj x.todS) 0 da && decide ((da.length:Int)<=max Me 0))=anL;have HTB:bN (_=anL):=hTB;clear hTB
 go_enter func55,ntmps55
 go_wp2_with fail;have alN:= @lm;have anw:= @iN;have anz:= @tb;have bA:= @gE;have anG: ∀ (x:aM) (W:w_) (g:Nat),W.heap[g]? =o_ (c_ (cW x) 115)->bN (W.heap[g]? =o_ (c_ (cW x) 115)):=fun _ _ _ h=>h
 have anQ:=results55
 go_loopw [7,15] (fun last i wr=> ∃ k:Nat,k<=da.length/\i=i_ j_ k/\last=i_ j_ (bW (·.id) 0 (da.take k))/\bN (F3 w Me da k wr)) (fun _ i _=>da.length - (intOf i).toNat)
 case atStart=>exact ⟨0,Ky _,rfl,rfl,⟨[],by simp,H0.I,rfl,by simp; omega⟩⟩
 case round=>
  exact aa
end
section
open Go.RowKit Go.Maps Go.Sort Go.Shelf
def wq (mb:Option Nat) (W:w_):k_ J3 143 #[.map mb] W fun e w'=>e=r_ (.func (.func 182) #[] #[p_ (o_ ⟨W.heap.size,0,n_⟩)])/\w'=W.alloc (c_ #[.map mb] 82):=
 (LO (n:=5)).1 (RC Tryz.keysPort Fence.wide 5 trivial rfl mb W)
def pY (Bm b:Nat) (m:df) (W:w_) (hBm:Bm < W.heap.size) (hc:W.cell? ⟨Bm,0,n_⟩=o_ (.map (o_ b))) (h:cF W b m) (hm:m.length<=1048576):
  k_ J3 135 #[.func (.func 182) #[] #[p_ (o_ ⟨Bm,0,n_⟩)]] W fun e w'=> ∃ v:v_,e=r_ v/\w'.ownsRow W.heap.size 2 1 v m.length (m.map fun p=> i_ j_ p.1)/\B_ W.heap.size W w':=by
 have hsz:Maps.size (gA m)=m.length:=size_map m;have hseq:SeqGives Fence.wide 2 J3 182 #[p_ (o_ ⟨Bm,0,n_⟩)] encZ (fun ss=>ss.Perm (intKeys (gA m))) (Maps.size (gA m)) W:=
  RD (ρ:=Tryz.keysPort_ren) { Tryz.keysPort with } Fence.wide _ trivial rfl zo Bm b m.length (gA m) W hBm hc h.1
 have cS:=RE Tryz.sortedA Fence.wide 5 trivial trivial trivial trivial rfl zo (Tryz.sortsA _) (LP func176 Zcq rfl) 182 #[p_ (o_ ⟨Bm,0,n_⟩)] trivial (LP func182 Zcq rfl) _ _ ZcJ Zc2 _ hseq
 exact mi
def BK:(Tryz.prog.info? 169).map (fun i=>(i.zero,i.size,i.bytes))=o_ (o_ (p_ n_),1,8):=by kernel_rfl
def Bx (Me:Int) (b:Nat) (m:df) (w:w_) (h:cF w b m) (hm:m.length<=1048576) (hwf: ∀ p∈m,(Lit.int j_ p.1).wf=true):
  k_ J3 109 #[a_ #[i_ j_ Me,.map (o_ b)]] w fun e w'=> ∃ a cap,e=r_ (s_ a m.length cap)/\w'.ownsRow w.heap.size 169 1 (s_ a m.length cap) m.length (m.map fun p=>dt p.2)/\B_ w.heap.size w w':=by
 obtain ⟨i0,hi,e0⟩:=Kw.1 BK;simp only [Kx] at e0;have HI:bN (_/\_/\_/\_):=⟨hi,e0⟩
 have HM:bN (cF w b m/\ ∀ p∈m,(Lit.int j_ p.1).wf=true):=⟨h,hwf⟩
 have hbl:b < w.heap.size:=h.lt;clear hi e0 h hwf
 go_enter func109,ntmps109
 go_wp2_with (go_at_call 143; refine (wq _ _).mono ?_; rintro e w' ⟨rfl,rfl⟩);refine (pY (w.heap.size+1) b m _ zw zw (HM.I.1.below (((Kp _ w).alloc (Ki _) _).alloc zw _)) hm).mono ?_;rintro e w2 ⟨v,rfl,hown,hb2⟩;have cy:bN (B_ w.heap.size w w2):=(((Kp _ w).alloc (Ki _) _).alloc zw _).trans (hb2.mono Zcr);have HS:bN (w2.heap[w.heap.size]? =o_ (c_ #[i_ j_ Me,.map (o_ b)] 84)):=(hb2.block _ Zcr).trans ((PU zw).trans (Kj _ _));obtain ⟨a,cap,hv,hrow⟩:=cr hown;have HR:bN (Row w2 a (m.map fun p=> i_ j_ p.1)):=hrow;rw [hv];clear hv hown hrow hb2 v;go_wp2_with fail;have Zc:=underlying82;have YC:=underlying183;have anF:=sK
 go_loopw [3,11] (fun l i wr=> ∃ k:Nat,k<=m.length/\i=i_ j_ k/\ ∃ a' cap',l=s_ a' k cap'/\bN (anZ 169 w2 m k a' cap' wr)) (fun _ i _=>m.length - (intOf i).toNat)
 case atStart=>exact ⟨0,Ky _,rfl,n_,0,rfl,⟨Ke _ _ _ _,Kp _ _⟩⟩
 case round=>
  exact ab
end
section
attribute [local go_sem ↓] Kc Kd
def yk (w:w_) (b:Nat) (m:df) (Me:Int) (x:bD) (w':w_):Prop:=(w'.cell? ⟨w.heap.size,0,n_⟩=o_ (i_ j_ Me)/\w'.cell? ⟨w.heap.size,1,n_⟩=o_ (.map (o_ b))/\(∀ ty,(Builtin.len_ #[70] ty #[.map (o_ b)]).run J3 w'= .ok (i_ j_ (m.length:Int)) w')/\w'.cell? ⟨w.heap.size+1,0,n_⟩=o_ (i_ j_ x.id)/\w'.cell? ⟨w.heap.size+1,1,n_⟩=o_ (i_ j_ x.n)/\w'.cell? ⟨w.heap.size+1,2,n_⟩=o_ (i_ j_ x.max))/\bN (fe w w' w.heap.size (w.heap.size+1) b m Me (eH x) 89 72)/\bN (kU w' x)
def jz {w w':w_} {b:Nat} {m:df} {Me:Int} {x:bD} (h:fe w w' w.heap.size (w.heap.size+1) b m Me (eH x) 89 72) (hf:kU w' x):yk w b m Me x w':=
 ⟨⟨h.cells.1,h.cells.2,fun ty=>h.mp.len underlying70 ty,gm h.bx⟩,h,hf⟩
def tU (Me:Int) (b:Nat) (m:df) (x:bD) (w:w_) (h:cF w b m) (hw:(Lit.int j_ x.id).wf=true) (hm:m.length<=1048576) (hf:kU w x):
  k_ J3 96 #[a_ #[i_ j_ Me,.map (o_ b)],a_ (eH x)] w fun e w'=>dD w b m (iI Me m x.id (gw x)) x.id (eH x) 89 e w':=by
 have HF:bN (fe w ((w.alloc (c_ #[i_ j_ Me,.map (o_ b)] 72)).alloc (c_ (eH x) 89)) w.heap.size (w.heap.size+1) b m Me (eH x) 89 72):=fe.start w h Me _ _ _;have HW:bN ((Lit.int j_ x.id).wf=true/\ ¬ w.heap.size+1=b/\m.length<=1048576):=⟨hw,by have:=h.lt; omega,hm⟩
 have HI:bN (kU ((w.alloc (c_ #[i_ j_ Me,.map (o_ b)] 72)).alloc (c_ (eH x) 89)) x):=hf.below ((((Kp _ w).alloc (Ki _) _)).alloc zw _);have hmn:=pb;have hmr:=wW;obtain ⟨s0,s1⟩:=HF.I.cells;obtain ⟨c0,c1,c2⟩:=gm HF.I.bx;clear h hw hf hm;unfold eH at *
 go_enter func96,ntmps96
 go_wp2_with fail;clear s0 s1 c0 c1 c2;obtain ⟨vA,hA⟩: ∃ v,(cz m x.id).isSome=v:=⟨_,rfl⟩
 obtain ⟨vB,F6⟩: ∃ v,decide (Me<=(m.length:Int))=v:=⟨_,rfl⟩
 obtain ⟨vC,hC⟩: ∃ v,cv x.id 1 1000=v:=⟨_,rfl⟩
 obtain ⟨vD,hD⟩: ∃ v,gw x=v:=⟨_,rfl⟩
 have HL:bN (iI Me m x.id (gw x)=(!vA && !vB && vC && vD)/\(vA=false->cz m x.id=n_)):=⟨pi hA F6 hC hD,fun e=>PX.1 (PY.1 (hA.trans e))⟩
 have HA:bN (Ending.returned (b_ (cz m x.id).isSome)=r_ (b_ vA)):=al hA;have HC:bN (Ending.returned (b_ (cv x.id 1 1000))=r_ (b_ vC)):=al hC;have HD:bN (Ending.returned (b_ (gw x))=r_ (b_ vD)):=al hD;clear hA hC hD;refine aT (yk w b m Me x) Zcq (jz HF.I.drew (HI.I.below (Kp _ _).drew)) ?_
 iterate 3 (refine agj ?_)
 (refine cl (i_ j_ x.id) 253 #[a_ #[i_ j_ x.id,i_ j_ x.n,i_ j_ x.max]] ?_ ?_ ?_; (intro w0 hS0; obtain ⟨⟨q0,q1,q2,q3,q4,q5⟩,hH⟩:=hS0; go_simp; try with_reducible rfl); (intro w0 hS0; refine (jv x w0).mono ?_; rintro e w2 ⟨rfl,hb2⟩; exact ⟨rfl,jz (hS0.2.1.I.below hb2) (hS0.2.2.I.below hb2)⟩); simp only [pt,sb,s0,s1])
 (refine cl (b_ vA) 130 #[a_ #[i_ j_ Me,.map (o_ b)],i_ j_ x.id] ?_ ?_ ?_; (intro w0 hS0; obtain ⟨⟨q0,q1,q2,q3,q4,q5⟩,hH⟩:=hS0; go_simp; try with_reducible rfl); (intro w0 hS0; refine (tZ Me b m x.id w0 hS0.2.1.I.mp HW.I.1).mono ?_; rintro e w2 ⟨rfl,hb2⟩; exact ⟨HA.I,jz (hS0.2.1.I.below hb2) (hS0.2.2.I.below hb2)⟩); simp only [pt,sb,s0,s1])
 (refine agj ?_)
 rcases vA.eq_false_or_eq_true with rfl | rfl
 focus iterate 6 (refine nl ?_; simp only [pt,sb,s0,s1])
 rotate_left
 focus iterate 6 (refine agj ?_)
 all_goals iterate 2 (refine agj ?_)
 rcases vB.eq_false_or_eq_true with rfl | rfl
 focus iterate 5 (refine nl ?_; simp only [pt,sb,s0,s1])
 rotate_left
 focus
  iterate 2 (refine agj ?_)
  (refine cl (i_ j_ x.id) 253 #[a_ #[i_ j_ x.id,i_ j_ x.n,i_ j_ x.max]] ?_ ?_ ?_; (intro w0 hS0; obtain ⟨⟨q0,q1,q2,q3,q4,q5⟩,hH⟩:=hS0; go_simp; try with_reducible rfl); (intro w0 hS0; refine (jv x w0).mono ?_; rintro e w2 ⟨rfl,hb2⟩; exact ⟨rfl,jz (hS0.2.1.I.below hb2) (hS0.2.2.I.below hb2)⟩); simp only [pt,sb,s0,s1])
  (refine cl (b_ vC) 129 #[i_ j_ x.id] ?_ ?_ ?_; (intro w0 hS0; obtain ⟨⟨q0,q1,q2,q3,q4,q5⟩,hH⟩:=hS0; go_simp; try with_reducible rfl); (intro w0 hS0; refine (eW x.id w0).mono ?_; rintro e w2 ⟨rfl,rfl⟩; exact ⟨HC.I,hS0⟩); simp only [pt,sb,s0,s1])
  (refine agj ?_)
 rotate_left
 focus iterate 5 (refine nl ?_; simp only [pt,sb,s0,s1])
 all_goals iterate 2 (refine agj ?_)
 rotate_right
 rcases vC.eq_false_or_eq_true with rfl | rfl
 focus
  iterate 2 (refine agj ?_)
  (refine cl (b_ vD) 254 #[a_ #[i_ j_ x.id,i_ j_ x.n,i_ j_ x.max]] ?_ ?_ ?_; (intro w0 hS0; obtain ⟨⟨q0,q1,q2,q3,q4,q5⟩,hH⟩:=hS0; go_simp; try with_reducible rfl); (intro w0 hS0; refine (ye x w0 hS0.2.2.I).mono ?_; rintro e w2 ⟨rfl,hb2⟩; exact ⟨HD.I,jz (hS0.2.1.I.below hb2) (hS0.2.2.I.below hb2)⟩); simp only [pt,sb,s0,s1])
  (refine agj ?_)
 rotate_left
 focus iterate 4 (refine nl ?_; simp only [pt,sb,s0,s1])
 rotate_left
 focus iterate 4 (refine nl ?_; simp only [pt,sb,s0,s1])
 rotate_left
 focus iterate 4 (refine nl ?_; simp only [pt,sb,s0,s1])
 rotate_left
 all_goals (refine agj ?_)
 all_goals refine bk Zcq ?_ _
 all_goals intro w1 cm
 rcases vD.eq_false_or_eq_true with rfl | rfl;rotate_left
 iterate 4
  exact ZaC
 go_wp2_with fail;refine eD (yk w b m Me x) 5 Zcq (jz cm.2.1.I.drew (cm.2.2.I.below (Kp _ _).drew)) ?_
 iterate 4 (refine ly 6 (v:= ?_) (o_ _) rfl rfl Zcq (fun _ _ _ h=>h) (bV Zcq ?_) ?_; rotate_left; (intro w0 hS0; obtain ⟨⟨q0,q1,q2,q3,q4,q5⟩,hH⟩:=hS0; go_simp; try with_reducible rfl); simp only [pt,sb,s0,s1])
 refine ly 6 (v:=i_ j_ x.id) (o_ _) rfl rfl Zcq (fun _ _ _ h=>h) (iZ (f:=253) (args:= #[a_ #[i_ j_ x.id,i_ j_ x.n,i_ j_ x.max]]) Zcq ?_ ?_) ?_
 .exact Zch
 .intro w0 hS0
  refine (jv x w0).mono ?_;rintro e w2 ⟨rfl,hb2⟩;exact ⟨rfl,jz (hS0.2.1.I.below hb2) (hS0.2.2.I.below hb2)⟩
 simp only [pt,sb,s0,s1];refine fL rfl Zcq Zcq Zcq ?_;intro w1 cm;obtain ⟨w2,hput,hend⟩:=cm.2.1.I.put zo underlying70 HW.I.1 (HL.I.2 (by trivial)) HW.I.2.2 HW.I.2.1;have HE:bN (dD w b m true x.id (eH x) 89 (r_ (b_ true)) w2):=hend;exact Zac
def IW (w:w_) (Me:Int) (da:List bD) (k:Nat) (wr:w_):Prop:=
 ∃ l:List (bD × Nat),l.map (·.1)=da.take k/\eS eH (fun x:bD=>x.id) 89 72 w wr Me l/\aw (fun x:bD=>x.id) (fun x:bD=>gw x) 0 (da.take k)=true/\(k:Int)<=max Me 0
def vV (a:Option d_) (da:List bD) (cap:Nat) (Me:Int) (w:w_) (hl:da.length<=1048576) (h:dm.bU w a da) (hf: ∀ x∈da,kU w x) (hw: ∀ x∈da,(Lit.int j_ x.id).wf=true):
  k_ J3 51 #[s_ a da.length cap,i_ j_ Me] w fun e w'=>jN eH (fun x:bD=>x.id) 89 w Me (aw (fun x:bD=>x.id) (fun x:bD=>gw x) 0 da && decide ((da.length:Int)<=max Me 0)) da e w':=by
 have hmk:=P4 (P:=J3) 70;have hmn:=pb;have H0:bN (eS eH (fun x:bD=>x.id) 89 72 w (((w.alloc (c_ #[i_ j_ 0,.map n_] 72)).alloc (.map #[] 0)).alloc (c_ #[i_ j_ Me,.map (o_ (w.heap.size+1))] 72)) Me []):=eS.start 72 w Me;have HL:bN (dm.bU w a da/\(∀ x∈da,kU w x)/\ ∀ x∈da,(Lit.int j_ x.id).wf=true):=⟨h,hf,hw⟩
 clear h hf hw;generalize hTB:(aw (fun x:bD=>x.id) (fun x:bD=>gw x) 0 da && decide ((da.length:Int)<=max Me 0))=anL;have HTB:bN (_=anL):=hTB;clear hTB
 go_enter func51,ntmps51
 go_wp2_with fail;have alN:= @lQ;have anw:= @jv;have anz:= @tU;have bA:= @gm;have anG: ∀ (x:bD) (W:w_) (g:Nat),W.heap[g]? =o_ (c_ (eH x) 89)->bN (W.heap[g]? =o_ (c_ (eH x) 89)):=fun _ _ _ h=>h
 have anQ:=results51
 go_loopw [7,15] (fun last i wr=> ∃ k:Nat,k<=da.length/\i=i_ j_ k/\last=i_ j_ (bW (·.id) 0 (da.take k))/\bN (IW w Me da k wr)) (fun _ i _=>da.length - (intOf i).toNat)
 case atStart=>exact ⟨0,Ky _,rfl,rfl,⟨[],by simp,H0.I,rfl,by simp; omega⟩⟩
 case round=>
  exact aa
def sk (w:w_) (b:Nat) (m:df) (Me:Int) (x:aB) (w':w_):Prop:=(w'.cell? ⟨w.heap.size,0,n_⟩=o_ (i_ j_ Me)/\w'.cell? ⟨w.heap.size,1,n_⟩=o_ (.map (o_ b))/\(∀ ty,(Builtin.len_ #[73] ty #[.map (o_ b)]).run J3 w'= .ok (i_ j_ (m.length:Int)) w')/\w'.cell? ⟨w.heap.size+1,0,n_⟩=o_ (i_ j_ x.id)/\w'.cell? ⟨w.heap.size+1,1,n_⟩=o_ (b_ x.up))/\bN (fe w w' w.heap.size (w.heap.size+1) b m Me (cG x) 91 75)/\bN (ix w' x)
def ik {w w':w_} {b:Nat} {m:df} {Me:Int} {x:aB} (h:fe w w' w.heap.size (w.heap.size+1) b m Me (cG x) 91 75) (hf:ix w' x):sk w b m Me x w':=
 ⟨⟨h.cells.1,h.cells.2,fun ty=>h.mp.len underlying73 ty,kF h.bx⟩,h,hf⟩
def rC (Me:Int) (b:Nat) (m:df) (x:aB) (w:w_) (h:cF w b m) (hw:(Lit.int j_ x.id).wf=true) (hm:m.length<=1048576) (hf:ix w x):
  k_ J3 97 #[a_ #[i_ j_ Me,.map (o_ b)],a_ (cG x)] w fun e w'=>dD w b m (iI Me m x.id (ey x)) x.id (cG x) 91 e w':=by
 have HF:bN (fe w ((w.alloc (c_ #[i_ j_ Me,.map (o_ b)] 75)).alloc (c_ (cG x) 91)) w.heap.size (w.heap.size+1) b m Me (cG x) 91 75):=fe.start w h Me _ _ _;have HW:bN ((Lit.int j_ x.id).wf=true/\ ¬ w.heap.size+1=b/\m.length<=1048576):=⟨hw,by have:=h.lt; omega,hm⟩
 have HI:bN (ix ((w.alloc (c_ #[i_ j_ Me,.map (o_ b)] 75)).alloc (c_ (cG x) 91)) x):=hf.below ((((Kp _ w).alloc (Ki _) _)).alloc zw _);have hmn:=mT;have hmr:=tp;obtain ⟨s0,s1⟩:=HF.I.cells;obtain ⟨c0,c1⟩:=kF HF.I.bx;clear h hw hf hm;unfold cG at *
 go_enter func97,ntmps97
 go_wp2_with fail;clear s0 s1 c0 c1;obtain ⟨vA,hA⟩: ∃ v,(cz m x.id).isSome=v:=⟨_,rfl⟩
 obtain ⟨vB,F6⟩: ∃ v,decide (Me<=(m.length:Int))=v:=⟨_,rfl⟩
 obtain ⟨vC,hC⟩: ∃ v,cv x.id 1 1000=v:=⟨_,rfl⟩
 obtain ⟨vD,hD⟩: ∃ v,ey x=v:=⟨_,rfl⟩
 have HL:bN (iI Me m x.id (ey x)=(!vA && !vB && vC && vD)/\(vA=false->cz m x.id=n_)):=⟨pi hA F6 hC hD,fun e=>PX.1 (PY.1 (hA.trans e))⟩
 have HA:bN (Ending.returned (b_ (cz m x.id).isSome)=r_ (b_ vA)):=al hA;have HC:bN (Ending.returned (b_ (cv x.id 1 1000))=r_ (b_ vC)):=al hC;have HD:bN (Ending.returned (b_ (ey x))=r_ (b_ vD)):=al hD;clear hA hC hD;refine aT (sk w b m Me x) Zcq (ik HF.I.drew (HI.I.below (Kp _ _).drew)) ?_
 iterate 3 (refine agj ?_)
 (refine cl (i_ j_ x.id) 256 #[a_ #[i_ j_ x.id,b_ x.up]] ?_ ?_ ?_; (intro w0 hS0; obtain ⟨⟨q0,q1,q2,q3,q4⟩,hH⟩:=hS0; go_simp; try with_reducible rfl); (intro w0 hS0; refine (iw x w0).mono ?_; rintro e w2 ⟨rfl,hb2⟩; exact ⟨rfl,ik (hS0.2.1.I.below hb2) (hS0.2.2.I.below hb2)⟩); simp only [pt,sb,s0,s1])
 (refine cl (b_ vA) 131 #[a_ #[i_ j_ Me,.map (o_ b)],i_ j_ x.id] ?_ ?_ ?_; (intro w0 hS0; obtain ⟨⟨q0,q1,q2,q3,q4⟩,hH⟩:=hS0; go_simp; try with_reducible rfl); (intro w0 hS0; refine (rj Me b m x.id w0 hS0.2.1.I.mp HW.I.1).mono ?_; rintro e w2 ⟨rfl,hb2⟩; exact ⟨HA.I,ik (hS0.2.1.I.below hb2) (hS0.2.2.I.below hb2)⟩); simp only [pt,sb,s0,s1])
 (refine agj ?_)
 rcases vA.eq_false_or_eq_true with rfl | rfl
 focus iterate 6 (refine nl ?_; simp only [pt,sb,s0,s1])
 rotate_left
 focus iterate 6 (refine agj ?_)
 all_goals iterate 2 (refine agj ?_)
 rcases vB.eq_false_or_eq_true with rfl | rfl
 focus iterate 5 (refine nl ?_; simp only [pt,sb,s0,s1])
 rotate_left
 focus
  iterate 2 (refine agj ?_)
  (refine cl (i_ j_ x.id) 256 #[a_ #[i_ j_ x.id,b_ x.up]] ?_ ?_ ?_; (intro w0 hS0; obtain ⟨⟨q0,q1,q2,q3,q4⟩,hH⟩:=hS0; go_simp; try with_reducible rfl); (intro w0 hS0; refine (iw x w0).mono ?_; rintro e w2 ⟨rfl,hb2⟩; exact ⟨rfl,ik (hS0.2.1.I.below hb2) (hS0.2.2.I.below hb2)⟩); simp only [pt,sb,s0,s1])
  (refine cl (b_ vC) 129 #[i_ j_ x.id] ?_ ?_ ?_; (intro w0 hS0; obtain ⟨⟨q0,q1,q2,q3,q4⟩,hH⟩:=hS0; go_simp; try with_reducible rfl); (intro w0 hS0; refine (eW x.id w0).mono ?_; rintro e w2 ⟨rfl,rfl⟩; exact ⟨HC.I,hS0⟩); simp only [pt,sb,s0,s1])
  (refine agj ?_)
 rotate_left
 focus iterate 5 (refine nl ?_; simp only [pt,sb,s0,s1])
 all_goals iterate 2 (refine agj ?_)
 rotate_right
 rcases vC.eq_false_or_eq_true with rfl | rfl
 focus
  iterate 2 (refine agj ?_)
  (refine cl (b_ vD) 257 #[a_ #[i_ j_ x.id,b_ x.up]] ?_ ?_ ?_; (intro w0 hS0; obtain ⟨⟨q0,q1,q2,q3,q4⟩,hH⟩:=hS0; go_simp; try with_reducible rfl); (intro w0 hS0; refine (tX x w0 hS0.2.2.I).mono ?_; rintro e w2 ⟨rfl,hb2⟩; exact ⟨HD.I,ik (hS0.2.1.I.below hb2) (hS0.2.2.I.below hb2)⟩); simp only [pt,sb,s0,s1])
  (refine agj ?_)
 rotate_left
 focus iterate 4 (refine nl ?_; simp only [pt,sb,s0,s1])
 rotate_left
 focus iterate 4 (refine nl ?_; simp only [pt,sb,s0,s1])
 rotate_left
 focus iterate 4 (refine nl ?_; simp only [pt,sb,s0,s1])
 rotate_left
 all_goals (refine agj ?_)
 all_goals refine bk Zcq ?_ _
 all_goals intro w1 cm
 rcases vD.eq_false_or_eq_true with rfl | rfl;rotate_left
 iterate 4
  exact ZaC
 go_wp2_with fail;refine eD (sk w b m Me x) 5 Zcq (ik cm.2.1.I.drew (cm.2.2.I.below (Kp _ _).drew)) ?_
 iterate 4 (refine ly 6 (v:= ?_) (o_ _) rfl rfl Zcq (fun _ _ _ h=>h) (bV Zcq ?_) ?_; rotate_left; (intro w0 hS0; obtain ⟨⟨q0,q1,q2,q3,q4⟩,hH⟩:=hS0; go_simp; try with_reducible rfl); simp only [pt,sb,s0,s1])
 refine ly 6 (v:=i_ j_ x.id) (o_ _) rfl rfl Zcq (fun _ _ _ h=>h) (iZ (f:=256) (args:= #[a_ #[i_ j_ x.id,b_ x.up]]) Zcq ?_ ?_) ?_
 .intro w0 hS0
  obtain ⟨⟨q0,q1,q2,q3,q4⟩,hH⟩:=hS0
  exact BC
 .intro w0 hS0
  refine (iw x w0).mono ?_;rintro e w2 ⟨rfl,hb2⟩;exact ⟨rfl,ik (hS0.2.1.I.below hb2) (hS0.2.2.I.below hb2)⟩
 simp only [pt,sb,s0,s1];refine fL rfl Zcq Zcq Zcq ?_;intro w1 cm;obtain ⟨w2,hput,hend⟩:=cm.2.1.I.put zo underlying73 HW.I.1 (HL.I.2 (by trivial)) HW.I.2.2 HW.I.2.1;have HE:bN (dD w b m true x.id (cG x) 91 (r_ (b_ true)) w2):=hend;exact Zac
def EJ (w:w_) (Me:Int) (da:List aB) (k:Nat) (wr:w_):Prop:=
 ∃ l:List (aB × Nat),l.map (·.1)=da.take k/\eS cG (fun x:aB=>x.id) 91 75 w wr Me l/\aw (fun x:aB=>x.id) (fun x:aB=>ey x) 0 (da.take k)=true/\(k:Int)<=max Me 0
def rZ (a:Option d_) (da:List aB) (cap:Nat) (Me:Int) (w:w_) (hl:da.length<=1048576) (h:bJ.bU w a da) (hf: ∀ x∈da,ix w x) (hw: ∀ x∈da,(Lit.int j_ x.id).wf=true):
  k_ J3 52 #[s_ a da.length cap,i_ j_ Me] w fun e w'=>jN cG (fun x:aB=>x.id) 91 w Me (aw (fun x:aB=>x.id) (fun x:aB=>ey x) 0 da && decide ((da.length:Int)<=max Me 0)) da e w':=by
 have hmk:=P4 (P:=J3) 73;have hmn:=mT;have H0:bN (eS cG (fun x:aB=>x.id) 91 75 w (((w.alloc (c_ #[i_ j_ 0,.map n_] 75)).alloc (.map #[] 0)).alloc (c_ #[i_ j_ Me,.map (o_ (w.heap.size+1))] 75)) Me []):=eS.start 75 w Me;have HL:bN (bJ.bU w a da/\(∀ x∈da,ix w x)/\ ∀ x∈da,(Lit.int j_ x.id).wf=true):=⟨h,hf,hw⟩
 clear h hf hw;generalize hTB:(aw (fun x:aB=>x.id) (fun x:aB=>ey x) 0 da && decide ((da.length:Int)<=max Me 0))=anL;have HTB:bN (_=anL):=hTB;clear hTB
 go_enter func52,ntmps52
 go_wp2_with fail;have alN:= @j4;have anw:= @iw;have anz:= @rC;have bA:= @kF;have anG: ∀ (x:aB) (W:w_) (g:Nat),W.heap[g]? =o_ (c_ (cG x) 91)->bN (W.heap[g]? =o_ (c_ (cG x) 91)):=fun _ _ _ h=>h
 have anQ:=results52
 go_loopw [7,15] (fun last i wr=> ∃ k:Nat,k<=da.length/\i=i_ j_ k/\last=i_ j_ (bW (·.id) 0 (da.take k))/\bN (EJ w Me da k wr)) (fun _ i _=>da.length - (intOf i).toNat)
 case atStart=>exact ⟨0,Ky _,rfl,rfl,⟨[],by simp,H0.I,rfl,by simp; omega⟩⟩
 case round=>
  exact aa
end
section
open Go.RowKit Go.Maps Go.Sort Go.Shelf
def vq (mb:Option Nat) (W:w_):k_ J3 140 #[.map mb] W fun e w'=>e=r_ (.func (.func 179) #[] #[p_ (o_ ⟨W.heap.size,0,n_⟩)])/\w'=W.alloc (c_ #[.map mb] 73):=
 (LO (n:=5)).1 (RC Tryz.keysEvent Fence.wide 5 trivial rfl mb W)
def pD (Bm b:Nat) (m:df) (W:w_) (hBm:Bm < W.heap.size) (hc:W.cell? ⟨Bm,0,n_⟩=o_ (.map (o_ b))) (h:cF W b m) (hm:m.length<=1048576):
  k_ J3 135 #[.func (.func 179) #[] #[p_ (o_ ⟨Bm,0,n_⟩)]] W fun e w'=> ∃ v:v_,e=r_ v/\w'.ownsRow W.heap.size 2 1 v m.length (m.map fun p=> i_ j_ p.1)/\B_ W.heap.size W w':=by
 have hsz:Maps.size (gA m)=m.length:=size_map m;have hseq:SeqGives Fence.wide 2 J3 179 #[p_ (o_ ⟨Bm,0,n_⟩)] encZ (fun ss=>ss.Perm (intKeys (gA m))) (Maps.size (gA m)) W:=
  RD (ρ:=Tryz.keysEvent_ren) { Tryz.keysEvent with } Fence.wide _ trivial rfl zo Bm b m.length (gA m) W hBm hc h.1
 have cS:=RE Tryz.sortedA Fence.wide 5 trivial trivial trivial trivial rfl zo (Tryz.sortsA _) (LP func176 Zcq rfl) 179 #[p_ (o_ ⟨Bm,0,n_⟩)] trivial (LP func179 Zcq rfl) _ _ ZcJ Zc2 _ hseq
 exact mi
def zk:(Tryz.prog.info? 177).map (fun i=>(i.zero,i.size,i.bytes))=o_ (o_ (p_ n_),1,8):=by kernel_rfl
def yh (Me:Int) (b:Nat) (m:df) (w:w_) (h:cF w b m) (hm:m.length<=1048576) (hwf: ∀ p∈m,(Lit.int j_ p.1).wf=true):
  k_ J3 106 #[a_ #[i_ j_ Me,.map (o_ b)]] w fun e w'=> ∃ a cap,e=r_ (s_ a m.length cap)/\w'.ownsRow w.heap.size 177 1 (s_ a m.length cap) m.length (m.map fun p=>dt p.2)/\B_ w.heap.size w w':=by
 obtain ⟨i0,hi,e0⟩:=Kw.1 zk;simp only [Kx] at e0;have HI:bN (_/\_/\_/\_):=⟨hi,e0⟩
 have HM:bN (cF w b m/\ ∀ p∈m,(Lit.int j_ p.1).wf=true):=⟨h,hwf⟩
 have hbl:b < w.heap.size:=h.lt;clear hi e0 h hwf
 go_enter func106,ntmps106
 go_wp2_with (go_at_call 140; refine (vq _ _).mono ?_; rintro e w' ⟨rfl,rfl⟩);refine (pD (w.heap.size+1) b m _ zw zw (HM.I.1.below (((Kp _ w).alloc (Ki _) _).alloc zw _)) hm).mono ?_;rintro e w2 ⟨v,rfl,hown,hb2⟩;have cy:bN (B_ w.heap.size w w2):=(((Kp _ w).alloc (Ki _) _).alloc zw _).trans (hb2.mono Zcr);have HS:bN (w2.heap[w.heap.size]? =o_ (c_ #[i_ j_ Me,.map (o_ b)] 75)):=(hb2.block _ Zcr).trans ((PU zw).trans (Kj _ _));obtain ⟨a,cap,hv,hrow⟩:=cr hown;have HR:bN (Row w2 a (m.map fun p=> i_ j_ p.1)):=hrow;rw [hv];clear hv hown hrow hb2 v;go_wp2_with fail;have Zc:=underlying73;have YC:=underlying175;have anF:=rE
 go_loopw [3,11] (fun l i wr=> ∃ k:Nat,k<=m.length/\i=i_ j_ k/\ ∃ a' cap',l=s_ a' k cap'/\bN (anZ 177 w2 m k a' cap' wr)) (fun _ i _=>m.length - (intOf i).toNat)
 case atStart=>exact ⟨0,Ky _,rfl,n_,0,rfl,⟨Ke _ _ _ _,Kp _ _⟩⟩
 case round=>
  exact ab
end
section
def MX (b:Bool) (w:w_):k_ J3 48 #[b_ b] w fun e w'=>e=r_ (t_ (Ij (MJ b)))/\w'=w:=by
 rw [Oq]
 go_enter func48,ntmps48
 cases b
 .go_wp2
  go_ret;exact ⟨rfl,rfl⟩
 .go_wp2
  go_ret;exact ⟨rfl,rfl⟩
def Nx (a:Option d_) (l:List ByteArray) (cap:Nat) (w:w_) (hl:l.length<=1048576) (hs: ∀ x∈l,x.size<=1048576) (h:Row w a (bT.flat l)):
  k_ J3 49 #[s_ a l.length cap] w fun e w'=>e=r_ (t_ (MI l))/\w'=w:=by
 have H:bN (Row w a (bT.flat l)/\ ∀ x∈l,x.size<=1048576):=⟨h,hs⟩
 clear h hs
 go_enter func49,ntmps49
 go_wp2_with fail
 go_loop [3,4] (fun t i=> ∃ k:Nat,k<=l.length/\i=i_ j_ k/\t=t_ (MI (l.take k))) (fun _ i=>l.length - (intOf i).toNat)
 case atStart=>exact ⟨0,Ky _,rfl,rfl⟩
 case round=>
  obtain ⟨k,hk,rfl,rfl⟩:=hrel;by_cases hlt:k < l.length
  .have i0:(0:Int)<=(k:Int):=zo
   have i1:(k:Int) < (l.length:Int):=zo
   obtain ⟨x,hx⟩: ∃ x,l[k]? =o_ x:=⟨_,Kz hlt⟩
   have HX:bN (MI (l.take k) ++ ⟨#[59]⟩ ++ x=MI (l.take (k+1))):=by show _=_; rw [MI,MI,OX hx,NS,ByteArray.append_assoc]
   obtain ⟨g,rfl,c0⟩:=zl H.I.1 hx;have hz:(MI (l.take k)).size<=1048577 * k:=by
    have h1:=Nf (f:=NS) (l:=l.take k) (m:=1048577) fun y hy=>by have:=H.I.2 y (RK hy); rw [Ny]; omega
    rw [Lk,Nat.min_eq_left hk] at h1;exact h1
   have hxs:=H.I.2 x (KA hx);have s1: ¬ 9223372036854775807 < (MI (l.take k)).size+1:=zo
   have s2: ¬ 9223372036854775807 < (MI (l.take k)).size+1+x.size:=zo
   clear hx hz hxs;go_wp2
   go_round
   case rel=>exact ⟨k+1,zo,by go_num,congrArg Value.string HX.I⟩
   case measure=>simp [intOf]; omega
  .have i1: ¬ (k:Int) < (l.length:Int):=zo
   have ek:k=l.length:=zo
   subst ek;rw [LQ];go_wp2;go_ret;exact ⟨rfl,rfl⟩
def NQ (l:List dN):ByteArray:=M0 l.length (Cd l) (Cg l) (Ea l) (Ce l)
def NP (a:Option d_) (l:List dN) (cap:Nat) (w:w_) (h0:0 < l.length) (hl:l.length<=1048576) (hs: ∀ o∈l,o.2.2.2.size<=1048576) (h:Row w a (fk.flat l)):
  k_ J3 47 #[s_ a l.length cap] w fun e w'=>e=r_ (t_ (NQ l))/\B_ w.heap.size w w':=by
 obtain ⟨g,rfl,hr⟩:=wa h h0;exact No g _ cap _ _ _ _ w hl (xd hs) hr
def N8 (l:List dN):(NQ l).size<=1040:=by
 unfold NQ M0;by_cases h:nq l.length (Cd l) (Cg l) (Ea l) (Ce l)=true
 .rw [if_pos h]
  have h1:=MU h;have h2:=NX _ h1.2.2;omega
 .rw [if_neg h]
  exact Ky _
end
section
open Go.Maps
def MM (b:Bool): -9999999999<=MJ b/\MJ b<=9999999999:=by cases b <;> decide
def Pj (_w:w_) (x:bD):Prop:=(∀ n∈ [x.id,x.n,x.max],-9999999999<=n/\n<=9999999999)
def OB (_w:w_) (x:aB):Prop:=(∀ n∈ [x.id,MJ x.up],-9999999999<=n/\n<=9999999999)
def OC (_w:w_) (x:az):Prop:=(∀ n∈ [x.id,MJ x.shown],-9999999999<=n/\n<=9999999999)/\x.text.size<=1048576
def N6 (w:w_) (x:au):Prop:=(∀ n∈ [x.id,x.max],-9999999999<=n/\n<=9999999999)/\x.Ma.length<=1048576/\(∀ s∈x.Ma,s.size<=1048576)/\Row w x.ak (bT.flat x.Ma)
def O5 (w:w_) (x:aM):Prop:=(∀ n∈ [x.id,MJ x.I,MJ x.Mf,x.max],-9999999999<=n/\n<=9999999999)/\x.Ma.length<=1048576/\(∀ s∈x.Ma,s.size<=1048576)/\Row w x.ak (bT.flat x.Ma)
def O0 (w:w_) (x:ao):Prop:=(∀ n∈ [x.id,x.RX,x.Md,x.pc,x.left,x.Mg,x.on,x.code,x.RU],-9999999999<=n/\n<=9999999999)/\0 < x.prog.length/\x.dX/\Row w x.aY (fk.flat x.prog)
def Nh {s:ByteArray} (h:bI s=true):s.size=0:=by
 have h1:s.toList= [] :=by simpa [bI] using h
 have h2:s.toList.length=s.size:=by rw [PQ]; simp
 rw [h1] at h2;exact h2.symm
def M5 {s:ByteArray} (h:bw s=true):s.size<=20:=by
 simp only [bw,J7,decide_eq_true_iff] at h;exact h.1
def OJ {k n m:Int} {s:ByteArray} (h:mQ k n m s=true):n<=1000/\s.size<=20:=by
 unfold mQ at h
 split at h
 .simp only [J7,bz] at h
  have:=Nh h.2
  omega
 split at h
 .simp only [J7,bz] at h
  have:=Nh h.2
  omega
 split at h
 .simp only [J7,bz] at h
  have:=M5 h.2
  omega
 split at h
 .simp only [J7,bz] at h
  have:=M5 h.2
  omega
 split at h
 .simp only [J7,decide_eq_true_iff] at h
  have:=Nh h.2
  omega
 .cases h
def NB {l:List dN} (h:jm l=true):0 < l.length/\l.length<=20/\ ∀ o∈l,o.2.1<=1000/\o.2.2.2.size<=20:=by
 have h1:=MU h;refine ⟨h1.1,h1.2.1,fun o ho=> ?_⟩;obtain ⟨i,hi,rfl⟩:=LK.1 ho;have h2:=OJ (h1.2.2 i hi);simpa [Cg,Ce,Kz hi] using h2
def has_in {p:aE} (h:aQ p) {s i:Int} (hb:hasB p s i=true):1<=i/\i<=1000:=by
 unfold hasB at hb
 split at hb
 .obtain ⟨x,hx,rfl⟩:=Lr.1 (of_decide_eq_true hb)
  exact bz.1 (cK h.aj x hx).1
 split at hb
 .obtain ⟨x,hx,rfl⟩:=Lr.1 (of_decide_eq_true hb)
  exact bz.1 (cK h.L9 x hx).1
 split at hb
 .obtain ⟨x,hx,rfl⟩:=Lr.1 (of_decide_eq_true hb)
  exact bz.1 (cK h.ae x hx).1
 split at hb
 .obtain ⟨x,hx,rfl⟩:=Lr.1 (of_decide_eq_true hb)
  exact bz.1 (cK h.ag x hx).1
 .cases hb
def Ns {l:List ByteArray} {m:Int} (h:dJ l m=true) (hm:m<=5):l.length<=1048576/\ ∀ s∈l,s.size<=1048576:=by
 simp only [dJ,J7,decide_eq_true_iff,PZ] at h;exact ⟨zo,fun s hs=>by have:=M5 (h.1 s hs); omega⟩
def O2 {p:aE} (h:aQ p) (w:w_) {x:bD} (hx:x∈p.aj):Pj w x:=by
 have h1:=cK h.aj x hx;simp only [gw,J7,bz] at h1;intro n hn;exact ZaP
def Oi {p:aE} (h:aQ p) (w:w_) {x:aB} (hx:x∈p.L9):OB w x:=by
 have h1:=bz.1 (cK h.L9 x hx).1;have h2:=MM x.up;intro n hn;exact ZaP
def N9 {p:aE} (h:aQ p) (w:w_) {x:az} (hx:x∈p.ag):OC w x:=by
 have h1:=cK h.ag x hx;simp only [cU,J7,bz] at h1;have h2:=MM x.shown;have h3:=M5 h1.2.1;refine ⟨fun n hn=> ?_,zo⟩;exact ZaP
def N3 {p:aE} (h:aQ p) {w:w_} {x:au} (hx:x.toci∈p.ae) (hr:Row w x.ak (bT.flat x.Ma)):N6 w x:=by
 have h1:=cK h.ae x.toci hx;simp only [ct,J7,bz] at h1;have h3:=Ns h1.2.2 zo;refine ⟨fun n hn=> ?_,h3.1,h3.2,hr⟩;exact ZaP
def OA {p:aE} (h:aQ p) {w:w_} {x:aM} (hx:x.todS∈p.ai) (hr:Row w x.ak (bT.flat x.Ma)):O5 w x:=by
 have h1:=cK h.ai x.todS hx;simp only [dj,J7,bz] at h1;have h3:=Ns h1.2.2 zo;have h4:=MM x.I;have h5:=MM x.Mf;refine ⟨fun n hn=> ?_,h3.1,h3.2,hr⟩;exact ZaP
def Oj {x:aD} (h:bO x=true) (hp:jm x.prog=true):0<=x.Md/\x.Md<=7/\0<=x.pc/\x.pc<=20/\0<=x.left/\x.left<=1000/\ -1<=x.Mg/\x.Mg<=2000000000/\(x.Md < 3->x.on=0)/\(x.Md=0->x.RU=0):=by
 have hl:=NB hp;unfold bO at h
 split at h
 .simp only [J7,decide_eq_true_iff] at h
  omega
 split at h
 .simp only [J7,decide_eq_true_iff,dU,bz,jJ] at h
  have h5:0<=x.left/\x.left<=1000:=by
   have h6:=h.1.1.1.2
   split at h6
   .simp only [J7,decide_eq_true_iff] at h6
    have h7:(opAt x).2.1<=1000:=by
     have h8:x.pc.toNat < x.prog.length:=zo
     unfold opAt;rw [Kz h8];exact (hl.2.2 _ (PJ h8)).1
    omega
   .have:=of_decide_eq_true h6
    omega
  omega
 split at h
 .simp only [J7,decide_eq_true_iff,dU,bz] at h
  omega
 split at h
 .simp only [J7,Kb,decide_eq_true_iff,dU,bz,lh] at h
  omega
 split at h
 .simp only [J7,Kb,decide_eq_true_iff,dU,bz,lh] at h
  omega
 .cases h
def Oy {p:aE} (h:aQ p) {w:w_} {x:ao} (hx:x.toaD∈p.L8) (hr:Row w x.aY (fk.flat x.prog)):O0 w x:=by
 have h1:=cK h.L8 x.toaD hx;simp only [cH,J7,bz,fF,dG,Kb,decide_eq_true_iff] at h1;have hn:=bz.1 h.next;have hp:=NB h1.2.1.1.1.1.1.1.2;have hs:=Oj h1.2.1.1.2 h1.2.1.1.1.1.1.1.2;have h3:=M5 h1.2.1.1.1.1.1.2;have h4:=M5 h1.2.1.1.1.1.2;have ho: -9999999999<=x.on/\x.on<=9999999999:=by
  have h5:=h1.2.2
  split at h5
  .have:=has_in h h5
   omega
  .have:=hs.2.2.2.2.2.2.2.2.1 zo
   omega
 refine ⟨fun n hn=> ?_,hp.1,⟨zo,fun o ho=>by have:=(hp.2.2 o ho).2; omega,zo,zo⟩,hr⟩;exact ZaP
def Pl {P:Program} {ev:Operand->v_} {oi:Oper} {T abH:T_} {x y:Operand} {u v:ByteArray} (ho:oi.op= .binOp .add T x y abH) (hx:ev x=t_ u) (hy:ev y=t_ v) (hz:u.size+v.size<=9000000000000000000) (w:w_):(execOp ev oi).run P w= .ok (.value (t_ (u ++ v))) w:=by
 have hs: ¬ 9223372036854775807 < u.size+v.size:=zo
 simp only [execOp,ho]
 go_simp
section
variable {P:Program} {md:Region.Mode} {ops:Array Oper} {Q:Exit->Act->w_->Prop} {S:w_->Prop} {oi:Oper} {fuel:Nat} {RV:Array Bool} {a:Act} {d:Tmp} {T abH:T_} {x y:Operand} {u v:ByteArray} {a':ByteArray->Act}
def ad (n:Nat) (hu:u.size<=2000000000000 * n) (hv:v.size<=2000000000000) (h: ∀ r:ByteArray,bN (r=u ++ v)->r.size<=2000000000000 * (n+1)->gR P md ops Q S fuel (RV.setIfInBounds (ops.size - (fuel+1)) true) (a' r))
  (hn:n<=1000:=by omega) (hi:ops[ops.size - (fuel+1)]? =o_ oi:=by rfl) (hd:oi.dst=o_ d:=by rfl) (ho:oi.op= .binOp .add T x y abH:=by rfl) (hx:a.eval x=t_ u:=by rfl) (hy:a.eval y=t_ v:=by rfl) (hc:Jj md ops RV (ops.size - (fuel+1)) oi (o_ d)=true:=by kernel_rfl)
  (hQ: ∀ c a w,Q (.panic c) (a.put (o_ d) (t_ (u ++ v))) w->Q (.panic c) a w:=by exact fun _ _ _ h=>h) (hw:Region.wanted oi (yielded ops a.tmps)=true:=by kernel_rfl) (ha: ∀ r,a.put (o_ d) (t_ r)=a' r:=by intro r; simp only [pt,sb,s0,s1]; rfl):gR P md ops Q S (fuel+1) RV a:=
 yl (fun w _=>Pl ho hx hy zo w) (by rw [ha]; exact h _ rfl (by rw [QH]; omega)) hi hd hc hQ hw
def y7 (n:Nat) (hu:u.size<=2000000000000 * n) (h: ∀ r:ByteArray,bN (r=u ++ v)->r.size<=2000000000000 * (n+1)->gR P md ops Q S fuel (RV.setIfInBounds (ops.size - (fuel+1)) true) (a' r))
  (hn:n<=1000:=by omega) (hi:ops[ops.size - (fuel+1)]? =o_ oi:=by rfl) (hd:oi.dst=o_ d:=by rfl) (ho:oi.op= .binOp .add T x (.const (t_ v)) abH:=by rfl) (hx:a.eval x=t_ u:=by rfl) (hv:v.size<=2000000000000:=by decide) (hc:Jj md ops RV (ops.size - (fuel+1)) oi (o_ d)=true:=by kernel_rfl)
  (hQ: ∀ c a w,Q (.panic c) (a.put (o_ d) (t_ (u ++ v))) w->Q (.panic c) a w:=by exact fun _ _ _ h=>h) (hw:Region.wanted oi (yielded ops a.tmps)=true:=by kernel_rfl) (ha: ∀ r,a.put (o_ d) (t_ r)=a' r:=by intro r; simp only [pt,sb,s0,s1]; rfl):gR P md ops Q S (fuel+1) RV a:=
 ad n hu hv h hn hi hd ho hx rfl hc hQ hw ha
def b9 (v:ByteArray) (f:FuncId) (KS:Array v_) (hf: ∀ w,S w->k_ P f KS w (fun e w'=>e=r_ (t_ v)/\S w')) (h:gR P md ops Q S fuel (RV.setIfInBounds (ops.size - (fuel+1)) true) (a' v))
  (hi:ops[ops.size - (fuel+1)]? =o_ oi:=by rfl) (hd:oi.dst=o_ d:=by rfl) (hy: ∀ w,S w->(execOp a.eval oi).run P w= .ok (.enter f KS) w:=by intro w0 hS0; go_simp) (hc:Jj md ops RV (ops.size - (fuel+1)) oi (o_ d)=true:=by kernel_rfl)
  (hQ: ∀ c a w,Q (.panic c) (a.put (o_ d) (t_ v)) w->Q (.panic c) a w:=by exact fun _ _ _ h=>h) (hw:Region.wanted oi (yielded ops a.tmps)=true:=by kernel_rfl) (ha: ∀ r,a.put (o_ d) (t_ r)=a' r:=by intro r; simp only [pt,sb,s0,s1]; rfl):gR P md ops Q S (fuel+1) RV a:=
 cl (t_ v) f KS hy hf Zc0 hi hd hc hQ hw
end
end
end Go.Proofs.YtfncpmaefninjaaGreatDoor
