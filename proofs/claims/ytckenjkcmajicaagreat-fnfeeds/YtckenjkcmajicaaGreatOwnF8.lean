/- What the proof leans on, part 8. -/
import Derived.Test.YtckenjkcmajicaaGreatOwnF4
set_option linter.all false
set_option maxRecDepth 100000
set_option maxHeartbeats 8000000
open Go.Proofs.Tryz
open Go renaming World->w_,Value->v_,Calls->k_,Addr->d_
open Go.Ending renaming returned->r_
open Go.IntKind renaming i64->j_
open Go.Obj renaming cells->c_
open Go.RowKit renaming Below->B_,Hid->bN
open Go.Value renaming int->i_,slice->s_,bool->b_,string->t_,agg->a_,pointer->p_,tuple->u_
open Option renaming some->o_,none->n_
open Function renaming comp_def->Ls
open Go renaming wp_at_succ->Kd,wp_at_zero->Kc
open Go.Proofs.Tryz renaming prog->J3
open Go.RowKit renaming run_makeMap->P4

open Go.RowKit
open Array renaming getElem?_eq_some_iff->J2
open Nat renaming le_refl->Ki
namespace Go.Proofs.YtckenjkcmajicaaGreat
section
attribute [local go_sem ↓] Kc Kd
def cW (x:aM):Array v_:= #[i_ j_ x.id,b_ x.I,b_ x.Mf,i_ j_ x.max,s_ x.ak x.Ma.length x.aq]
def jf (w:w_) (x:aM):Prop:=fT w x.ak x.Ma
def jf.below {w w':w_} {x:aM} (h:jf w x) (hb:B_ w.heap.size w w'):jf w' x:=fT.below h hb
def gE {W:w_} {X:Nat} {x:aM} (h:W.heap[X]? =o_ (c_ (cW x) 51)):W.cell? ⟨X,0,n_⟩=o_ (i_ j_ x.id)/\W.cell? ⟨X,1,n_⟩=o_ (b_ x.I)/\W.cell? ⟨X,2,n_⟩=o_ (b_ x.Mf)/\W.cell? ⟨X,3,n_⟩=o_ (i_ j_ x.max)/\W.cell? ⟨X,4,n_⟩=o_ (s_ x.ak x.Ma.length x.aq):=by
 unfold cW at h;simp [World.cell?,h]
def iN (x:aM) (w:w_):k_ J3 207 #[a_ (cW x)] w fun e w'=>e=r_ (i_ j_ x.id)/\B_ w.heap.size w w':=by
 unfold cW
 go_enter func207,ntmps207
 exact n8
def nY (v : v_) (w : w_) : Sem.run J3 (method 405 51 v "loop.example/g00313/impl.number") w = .ok (207, v) w := by kernel_rfl
def vZ (v : v_) (w : w_) : Sem.run J3 (method 405 51 v "loop.example/g00313/impl.right") w = .ok (208, v) w := by kernel_rfl
def sK (w:w_):(zeroValue 89).run J3 w= .ok (p_ n_) w:=by kernel_rfl
def Bb (Me:Int) (b:Nat) (m:df) (id:Int) (w:w_) (h:cF w b m) (hw:(Lit.int j_ id).wf=true):
  k_ J3 179 #[a_ #[i_ j_ Me,.map (o_ b)],i_ j_ id] w fun e w'=>e=r_ (b_ (cz m id).isSome)/\B_ w.heap.size w w':=by
 have hlk:=(h.below ((Kp _ w).alloc (Ki _) (c_ #[i_ j_ Me,.map (o_ b)] 119))).look underlying117 (sK _) hw true;simp only [if_true] at hlk;clear h hw
 go_enter func179,ntmps179
 exact n8
def wG (x:aM) (w:w_) (hf:jf w x):k_ J3 208 #[a_ (cW x)] w fun e w'=>e=r_ (b_ (dj x.todS))/\B_ w.heap.size w w':=by
 have HF:bN (jf w x):=hf;clear hf;obtain ⟨⟨id,I,Mf,max,Ma⟩,ak,aq⟩:=x;unfold cW;cases hp:(cv max 1 5 && dJ Ma max) with
 | false=>
  have HP:bN ((cv max 1 5 && dJ Ma max)=false):=hp;clear hp
  go_enter func208,ntmps208
  go_wp2_with fail;refine (oy ak Ma aq max _ (fT.below HF.I ((Kp _ _).alloc (Ki _) _))).mono ?_;rintro e w1 ⟨rfl,hw1⟩;rw [HP.I];subst hw1;go_wp2;go_ret;exact ⟨al (zS HP.I).symm,(Kp _ _).alloc (Ki _) _⟩
 | true=>
  have HP:bN ((cv max 1 5 && dJ Ma max)=true):=hp;clear hp;by_cases h1:max=1
  all_goals
   have HM:bN (decide (max=1)=(max == 1)):=by show decide (max=1)=(max == 1); by_cases h:max=1 <;> simp [h]
   have h1':(max == 1)=decide (max=1):=HM.I.symm;cases Mf
  all_goals
   have HV:bN (∀ q,dj ⟨id,I,q,max,Ma⟩=(q || decide (max=1))):=Cu HP.I;simp only [h1,decide_true,decide_false] at h1';clear h1
   go_enter func208,ntmps208
   go_wp2_with fail;refine (oy ak Ma aq max _ (fT.below HF.I ((Kp _ _).alloc (Ki _) _))).mono ?_;rintro e w1 ⟨rfl,hw1⟩;rw [HP.I];subst hw1;go_wp2;go_ret;exact ⟨al (by rw [HV.I,HM.I]; simp [h1']),(Kp _ _).alloc (Ki _) _⟩
end
section
open Go.Maps
attribute [local go_sem ↓] Kc Kd
def aR:gd ao:=⟨aX,fun x=>x.id,125,217,4,fun x=>x.aY,fun x=>x.bH,fun x=>x.prog.length,fun x=>fk.flat x.prog,fun x a c=> { x with aY:=a,bH:=c },fun _ _ _=>rfl,fun _ _ _=>rfl,fun _ _ _=>rfl,fun _ _ _=>rfl,fun _ _ _=>rfl,fun _ _ _ _ _=>rfl⟩
def aC:gd au:=⟨bQ,fun x=>x.id,137,9,1,fun x=>x.ak,fun x=>x.aq,fun x=>x.Ma.length,fun x=>bT.flat x.Ma,fun x a c=> { x with ak:=a,aq:=c },fun _ _ _=>rfl,fun _ _ _=>rfl,fun _ _ _=>rfl,fun _ _ _=>rfl,fun _ _ _=>rfl,fun _ _ _ _ _=>rfl⟩
def aU:gd aM:=⟨cW,fun x=>x.id,51,9,1,fun x=>x.ak,fun x=>x.aq,fun x=>x.Ma.length,fun x=>bT.flat x.Ma,fun x a c=> { x with ak:=a,aq:=c },fun _ _ _=>rfl,fun _ _ _=>rfl,fun _ _ _=>rfl,fun _ _ _=>rfl,fun _ _ _=>rfl,fun _ _ _ _ _=>rfl⟩
def fY {α:Type} (N:gd α) (w:w_) (bi:Nat) (l:List (α × Nat)):Prop:= ∀ p∈l,Row w (N.ad p.1) (N.flat p.1)/\N.len p.1<=1048576/\ ∀ g,N.bt p.1=o_ g->g < bi
def fY.low {α:Type} {N:gd α} {w w':w_} {bi:Nat} {l:List (α × Nat)} (h:fY N w bi l) (hb:B_ bi w w'):fY N w' bi l:=fun p hp=>
 ⟨(h p hp).1.low (fun q e=>(h p hp).2.2 q.block (by simp [gd.bt,e])) hb,(h p hp).2⟩
def D5:(Tryz.prog.info? 217).map (fun i=>(i.zero,i.size,i.bytes))=o_ (o_ (a_ #[i_ j_ 0,i_ j_ 0,i_ j_ 0,t_ ⟨#[]⟩]),4,40):=by kernel_rfl
def zD:(Tryz.prog.info? 9).map (fun i=>(i.zero,i.size,i.bytes))=o_ (o_ (t_ ⟨#[]⟩),1,16):=by kernel_rfl
def FE {l:List dN} : ∀ u∈fk.flat l,u.oneCell'=true:=fun u hu=>by
 obtain ⟨x,_,hx⟩:=Rt.1 hu;simp only [fk,CC,Kt,Ku,or_false] at hx;rcases hx with rfl | rfl | rfl | rfl <;> rfl
def yK {l:List ByteArray} : ∀ u∈bT.flat l,u.oneCell'=true:=fun u hu=>by
 obtain ⟨x,_,hx⟩:=Rt.1 hu;simp only [bT,Kt,Ku,or_false] at hx;subst hx;rfl
def FR (w:w_) (a:Option d_) (l:List dN) (cap:Nat) (h:Row w a (fk.flat l)) (hl:l.length<=1048576):
  ∃ a' cap' w',(Builtin.append_ #[123,123] 123 #[s_ n_ 0 0,s_ a l.length cap]).run J3 w= .ok (s_ a' l.length cap') w'/\w'.ownsRow w.heap.size 217 4 (s_ a' l.length cap') l.length (fk.flat l)/\w.grownBy w' n_:=by
 obtain ⟨i,hi,e⟩:=Kw.1 D5;simp only [Kx] at e;exact sZ w _ _ 217 i _ 4 40 underlying123 hi e.1 e.2.1 e.2.2 rfl (by decide) a l.length cap _ h (fk.dM l) FE hl (by decide)
def xF (w:w_) (a:Option d_) (l:List ByteArray) (cap:Nat) (h:Row w a (bT.flat l)) (hl:l.length<=1048576):
  ∃ a' cap' w',(Builtin.append_ #[49,49] 49 #[s_ n_ 0 0,s_ a l.length cap]).run J3 w= .ok (s_ a' l.length cap') w'/\w'.ownsRow w.heap.size 9 1 (s_ a' l.length cap') l.length (bT.flat l)/\w.grownBy w' n_:=by
 obtain ⟨i,hi,e⟩:=Kw.1 zD;simp only [Kx] at e;exact sZ w _ _ 9 i _ 1 16 underlying49 hi e.1 e.2.1 e.2.2 rfl (by decide) a l.length cap _ h (bT.dM l) yK hl (by decide)
structure kG {α:Type} (N:gd α) (w0 wr:w_) (bi b:Nat) (l l':List (α × Nat)):Prop where
 eh:Shelf N.vs N.num N.T wr bi b l'
 alike:l'.map (fun p=>(N.set p.1 n_ 0,p.2))=l.map (fun p=>(N.set p.1 n_ 0,p.2))
 mine: ∀ p∈l',N.cO wr w0.heap.size p.1
 nodup:(kids N l').Nodup
 os:wr.os=w0.os
 tape:wr.tape=w0.tape
 output:wr.output=w0.output
 size:w0.heap.size<=wr.heap.size
 same: ∀ g,g < w0.heap.size->g∉l.map (·.2)->wr.heap[g]? =w0.heap[g]?
def fS.owned {α:Type} {N:gd α} {w0 wr:w_} {bi b:Nat} {l l':List (α × Nat)} {left:Lit->Bool} (h:fS N w0 wr bi b l l' left) (hd: ∀ kl,left kl=false):kG N w0 wr bi b l l':=
 ⟨h.eh,h.alike,fun p hp=>h.own p hp (hd _),h.nodup hd,h.os,h.tape,h.output,h.size,h.same⟩
def kG.below {α:Type} {N:gd α} {w0 wr:w_} {bi b:Nat} {l l':List (α × Nat)} (h:kG N w0 wr bi b l l') (hb:bi<=w0.heap.size) (hl: ∀ g∈l.map (·.2),bi<=g):B_ bi w0 wr:=
 ⟨h.os,h.tape,h.output,h.size,fun g hg=>h.same g zw (fun hm=>by have:=hl g hm; omega)⟩
structure mv (w:w_) (bi o:Nat) (q:ol) (lp:List (ao × Nat)) (lf:List (au × Nat)) (lq:List (aM × Nat)):Prop where
 opn:fa w o q
 L8:Shelf aX (fun x:ao=>x.id) 125 w bi q.bp lp
 ae:Shelf bQ (fun x:au=>x.id) 137 w bi q.bf lf
 ai:Shelf cW (fun x:aM=>x.id) 51 w bi q.bq lq
 nodup:(o :: ((q.bp :: lp.map (·.2)) ++ ((q.bf :: lf.map (·.2)) ++ (q.bq :: lq.map (·.2))))).Nodup
def mv.EK {w w':w_} {bi o:Nat} {q:ol} {lp l':List (ao × Nat)} {lf:List (au × Nat)} {lq:List (aM × Nat)} (h:mv w bi o q lp lf lq) (ho:kG aR w w' bi q.bp lp l'):mv w' bi o q l' lf lq:=by
 have hbl:l'.map (·.2)=lp.map (·.2):=by
  have:=congrArg (List.map (·.2)) ho.alike
  exact Z_
 have hn:=h.nodup;rw [Lp,Kf] at hn;obtain ⟨h1,h2,h3,h4⟩:=hn;have hlp: ∀ g,g∈(q.bf :: lf.map (·.2)) ++ (q.bq :: lq.map (·.2))->g∉lp.map (·.2):=fun g hg hm=>h4 g (LB _ hm) g hg rfl
 refine ⟨(ho.same o (J2.1 h.opn).1 (fun hm=>h1 (by simp [Lr.1 hm]))).trans h.opn,ho.eh,h.ae.same fun g hg=>ho.same g (h.ae.lt g hg) (hlp g (Lz _ hg)),h.ai.same fun g hg=>ho.same g (h.ai.lt g hg) (hlp g (Ly _ hg)),?_⟩;rw [hbl];exact h.nodup
def mv.Af {w w':w_} {bi o:Nat} {q:ol} {lp:List (ao × Nat)} {lf l':List (au × Nat)} {lq:List (aM × Nat)} (h:mv w bi o q lp lf lq) (ho:kG aC w w' bi q.bf lf l'):mv w' bi o q lp l' lq:=by
 have hbl:l'.map (·.2)=lf.map (·.2):=by
  have:=congrArg (List.map (·.2)) ho.alike
  exact Z_
 have hn:=h.nodup;rw [Lp,Kf,Kf] at hn;obtain ⟨h1,h2,⟨h3,h5,h6⟩,h4⟩:=hn;refine ⟨(ho.same o (J2.1 h.opn).1 (fun hm=>h1 (by simp [Lr.1 hm]))).trans h.opn,h.L8.same fun g hg=>ho.same g (h.L8.lt g hg) (fun hm=>h4 g hg g (Lz _ (LB _ hm)) rfl),ho.eh,h.ai.same fun g hg=>ho.same g (h.ai.lt g hg) (fun hm=>h6 g (LB _ hm) g hg rfl),?_⟩;rw [hbl];exact h.nodup
def wO (o bi:Nat) (q:ol) (lp:List (ao × Nat)) (lf:List (au × Nat)) (lq:List (aM × Nat)) (w:w_) (h:mv w bi o q lp lf lq) (hb:bi<=w.heap.size) (h1:fY aR w bi lp) (h2:fY aC w bi lf) (h3:fY aU w bi lq):
  k_ J3 106 #[p_ (o_ ⟨o,0,n_⟩)] w fun e w'=>e=r_ (u_ #[])/\ ∃ w1 w2 l0 l1 l2,kG aR w w1 bi q.bp lp l0/\kG aC w1 w2 bi q.bf lf l1/\kG aU w2 w' bi q.bq lq l2:=by
 have HT:bN (mv w bi o q lp lf lq):=h;have Fy:bN (bi<=w.heap.size):=hb;have Ia:bN (∀ g∈lp.map (·.2),bi<=g):=fun g hg=>h.L8.low g (LB _ hg)
 have HLP:bN (fY aR w bi lp):=h1;have I8:bN (fY aC w bi lf):=h2;have ID:bN (fY aU w bi lq):=h3;clear h hb h1 h2 h3
 go_enter func106,ntmps106
 have c0:w.cell? ⟨o,3,n_⟩=o_ (.map (o_ q.bp)):=HT.I.opn.cell 3;have hown:=HT.I.L8.map.1;go_wp2_with (at_range; refine wpList_range_own _ rfl _ 102 rfl 2 161 jb underlying102 od q.bp _ _ rfl hown ?_; intro w1 BW CT hs1);have HS:bN (fS aR w w1 bi q.bp lp lp (Maps.has (gA (RW aR.num lp)))):=fS.start HT.I.L8 CT;have En:bN (∀ g∈q.bp :: lp.map (·.2),g < w.heap.size):=HT.I.L8.lt;clear hown c0 CT
 go_frame
 go_loopw [3] (fun _ tD=> ∃ (left:Lit->Bool) (cnt:Nat) (l':List (ao × Nat)),tD.ranges J3 2 od q.bp w.heap.size (RW (fun x:ao=>x.id) lp).length (gA (RW (fun x:ao=>x.id) lp)) left cnt/\bN (fS aR w tD bi q.bp lp l' left)) (fun _ tD=>tD.rangeLeft q.bp w.heap.size)
 case atStart=>exact ⟨_,_,lp,BW,HS.I⟩
 case round=>
  rename w_=>tD
  clear HS BW hs1 w1;obtain ⟨left,cnt,l0,hrg,HO⟩:=hrel;go_wp2_with (at_next; refine wpList_next_ranges _ rfl _ rfl 2 jb od (Value.int j_) dt (fun key kl hk=>by obtain ⟨x,rfl,_⟩:=RB underlying2 hk; exact ⟨x,rfl⟩) (fun v y hv=>by obtain ⟨g,rfl,_⟩:=oI hv; exact ⟨g,rfl⟩) q.bp w.heap.size _ _ _ _ rfl hrg ?_ ?_)
  .intro hc0 hl0
   have VH:bN (kG aR w tD bi q.bp lp l0):=HO.I.owned hl0;clear hrg HO hc0 hl0 En left cnt;have HTN:bN (mv tD bi o q l0 lf lq):=HT.I.EK VH.I;clear HT;have HT:bN (mv tD bi o q l0 lf lq):=HTN.I;have HLI:bN (fY aC tD bi lf/\fY aU tD bi lq):=⟨I8.I.low (VH.I.below Fy.I Ia.I),ID.I.low (VH.I.below Fy.I Ia.I)⟩
   have HBN:bN (bi<=tD.heap.size):=LG Fy.I VH.I.size;clear HTN Fy Ia HLP;have Fy:bN (bi<=tD.heap.size):=HBN.I;have Ia:bN (∀ g∈lf.map (·.2),bi<=g):=fun g hg=>HT.I.ae.low g (LB _ hg)
   clear I8 ID;have I8:bN (fY aC tD bi lf):=HLI.I.1;have ID:bN (fY aU tD bi lq):=HLI.I.2;clear HLI HBN;have c1:tD.cell? ⟨o,11,n_⟩=o_ (.map (o_ q.bf)):=HT.I.opn.cell 11;have hown:=HT.I.ae.map.1;go_wp2_with (at_range; refine wpList_range_own _ rfl _ 114 rfl 2 173 jb underlying114 od q.bf _ _ rfl hown ?_; intro w1 BW CT hs1);have HS:bN (fS aC tD w1 bi q.bf lf lf (Maps.has (gA (RW aC.num lf)))):=fS.start HT.I.ae CT;have Jt:bN (∀ g∈q.bf :: lf.map (·.2),g < tD.heap.size):=HT.I.ae.lt;clear hown c1 CT
   go_frame
   go_loopw [5] (fun _ wr2=> ∃ (left:Lit->Bool) (cnt:Nat) (l':List (au × Nat)),wr2.ranges J3 2 od q.bf tD.heap.size (RW (fun x:au=>x.id) lf).length (gA (RW (fun x:au=>x.id) lf)) left cnt/\bN (fS aC tD wr2 bi q.bf lf l' left)) (fun _ wr2=>wr2.rangeLeft q.bf tD.heap.size)
   case atStart=>exact ⟨_,_,lf,BW,HS.I⟩
   case round=>
    rename w_=>wr2
    clear HS BW hs1 w1;obtain ⟨left,cnt,l1,hrg,HO⟩:=hrel;go_wp2_with (at_next; refine wpList_next_ranges _ rfl _ rfl 2 jb od (Value.int j_) dt (fun key kl hk=>by obtain ⟨x,rfl,_⟩:=RB underlying2 hk; exact ⟨x,rfl⟩) (fun v y hv=>by obtain ⟨g,rfl,_⟩:=oI hv; exact ⟨g,rfl⟩) q.bf tD.heap.size _ _ _ _ rfl hrg ?_ ?_)
    .intro hc0 hl0
     have HD1:bN (kG aC tD wr2 bi q.bf lf l1):=HO.I.owned hl0;clear hrg HO hc0 hl0 Jt left cnt;have HTN:bN (mv wr2 bi o q l0 l1 lq):=HT.I.Af HD1.I;clear HT;have HT:bN (mv wr2 bi o q l0 l1 lq):=HTN.I;have HLI:bN (fY aU wr2 bi lq):=ID.I.low (HD1.I.below Fy.I Ia.I);have HBN:bN (bi<=wr2.heap.size):=LG Fy.I HD1.I.size;clear HTN Fy Ia I8;have Fy:bN (bi<=wr2.heap.size):=HBN.I;have Ia:bN (∀ g∈lq.map (·.2),bi<=g):=fun g hg=>HT.I.ai.low g (LB _ hg)
     clear ID;have ID:bN (fY aU wr2 bi lq):=HLI.I;clear HLI HBN;have c2:wr2.cell? ⟨o,13,n_⟩=o_ (.map (o_ q.bq)):=HT.I.opn.cell 13;have hown:=HT.I.ai.map.1;go_wp2_with (at_range; refine wpList_range_own _ rfl _ 117 rfl 2 89 jb underlying117 od q.bq _ _ rfl hown ?_; intro w1 BW CT hs1);have HS:bN (fS aU wr2 w1 bi q.bq lq lq (Maps.has (gA (RW aU.num lq)))):=fS.start HT.I.ai CT;have HL2:bN (∀ g∈q.bq :: lq.map (·.2),g < wr2.heap.size):=HT.I.ai.lt;clear hown c2 CT
     go_frame
     go_loopw [7] (fun _ wr3=> ∃ (left:Lit->Bool) (cnt:Nat) (l':List (aM × Nat)),wr3.ranges J3 2 od q.bq wr2.heap.size (RW (fun x:aM=>x.id) lq).length (gA (RW (fun x:aM=>x.id) lq)) left cnt/\bN (fS aU wr2 wr3 bi q.bq lq l' left)) (fun _ wr3=>wr3.rangeLeft q.bq wr2.heap.size)
     case atStart=>exact ⟨_,_,lq,BW,HS.I⟩
     case round=>
      rename w_=>wr3
      clear HS BW hs1 w1;obtain ⟨left,cnt,l2,hrg,HO⟩:=hrel;go_wp2_with (at_next; refine wpList_next_ranges _ rfl _ rfl 2 jb od (Value.int j_) dt (fun key kl hk=>by obtain ⟨x,rfl,_⟩:=RB underlying2 hk; exact ⟨x,rfl⟩) (fun v y hv=>by obtain ⟨g,rfl,_⟩:=oI hv; exact ⟨g,rfl⟩) q.bq wr2.heap.size _ _ _ _ rfl hrg ?_ ?_)
      .intro hc0 hl0
       have HD2:bN (kG aU wr2 wr3 bi q.bq lq l2):=HO.I.owned hl0;clear hrg HO hc0 hl0 HL2 left cnt;go_wp2
       go_end0
       exact ⟨rfl,tD,wr2,l0,l1,l2,VH.I,HD1.I,HD2.I⟩
      .intro x c kl y1 y2 w2 cnt2 hkey hlk hv hat hrg2 oX rx oE hen
       obtain ⟨p,hp,rfl,rfl,rfl⟩:=HO.I.pick hkey hv hat;have hpl:p.2∈lq.map (·.2):=by rw [<- HO.I.Mc]; exact Lr.2 ⟨p,hp,rfl⟩
       have td:=HO.I.old p hp hlk;have hpw:=HL2.I p.2 (LB _ hpl);have lD:w2.heap[p.2]? =o_ (c_ (cW p.1) 51):=(rx.block p.2 (Kn hpw HO.I.size) (fun e=>by have:=KC e; omega)).trans (HO.I.eh.box p hp);have hrow:Row w2 p.1.ak (bT.flat p.1.Ma):=(ID.I p td).1.same fun g e=>by
        have hgb:g < bi:=(ID.I p td).2.2 g ZcD;exact M_
       obtain ⟨a3,UY,w3,hap,sY,hg3⟩:=xF w2 p.1.ak p.1.Ma p.1.aq hrow (ID.I p td).2.1;have cc:w2.cell? ⟨p.2,4,n_⟩=o_ (s_ p.1.ak p.1.Ma.length p.1.aq):=by simp [World.cell?,lD,cW]
       have oG:=(hg3.block p.2 (J2.1 lD).1 zy).trans lD;have cc3:w3.cell? ⟨p.2,4,n_⟩=o_ (s_ p.1.ak p.1.Ma.length p.1.aq):=by simp [World.cell?,oG,cW]
       have cf3:w3.frozen? ⟨p.2,4,n_⟩=false:=by simp [World.frozen?,oG]
       have HN:=HO.I.ju (i:=4) hrg rx hrg2 HL2.I (Ki _) hp sY hg3 rfl;have Hb:bN (_/\_):=HN;have j6:bN (cnt2 < cnt/\wr3.rangeLeft q.bq wr2.heap.size=cnt):=⟨oX,hrg.left_eq⟩
       exact G_
    .intro x c kl y1 y2 w2 cnt2 hkey hlk hv hat hrg2 oX rx oE hen
     obtain ⟨p,hp,rfl,rfl,rfl⟩:=HO.I.pick hkey hv hat;have hpl:p.2∈lf.map (·.2):=by rw [<- HO.I.Mc]; exact Lr.2 ⟨p,hp,rfl⟩
     have td:=HO.I.old p hp hlk;have hpw:=Jt.I p.2 (LB _ hpl);have lD:w2.heap[p.2]? =o_ (c_ (bQ p.1) 137):=(rx.block p.2 (Kn hpw HO.I.size) (fun e=>by have:=KC e; omega)).trans (HO.I.eh.box p hp);have hrow:Row w2 p.1.ak (bT.flat p.1.Ma):=(I8.I p td).1.same fun g e=>by
      have hgb:g < bi:=(I8.I p td).2.2 g ZcD;exact M_
     obtain ⟨a3,UY,w3,hap,sY,hg3⟩:=xF w2 p.1.ak p.1.Ma p.1.aq hrow (I8.I p td).2.1;have cc:w2.cell? ⟨p.2,2,n_⟩=o_ (s_ p.1.ak p.1.Ma.length p.1.aq):=by simp [World.cell?,lD,bQ]
     have oG:=(hg3.block p.2 (J2.1 lD).1 zy).trans lD;have cc3:w3.cell? ⟨p.2,2,n_⟩=o_ (s_ p.1.ak p.1.Ma.length p.1.aq):=by simp [World.cell?,oG,bQ]
     have cf3:w3.frozen? ⟨p.2,2,n_⟩=false:=by simp [World.frozen?,oG]
     have HN:=HO.I.ju (i:=2) hrg rx hrg2 Jt.I (Ki _) hp sY hg3 rfl;have Hb:bN (_/\_):=HN;have j6:bN (cnt2 < cnt/\wr2.rangeLeft q.bf tD.heap.size=cnt):=⟨oX,hrg.left_eq⟩
     exact G_
  .intro x c kl y1 y2 w2 cnt2 hkey hlk hv hat hrg2 oX rx oE hen
   obtain ⟨p,hp,rfl,rfl,rfl⟩:=HO.I.pick hkey hv hat;have hpl:p.2∈lp.map (·.2):=by rw [<- HO.I.Mc]; exact Lr.2 ⟨p,hp,rfl⟩
   have td:=HO.I.old p hp hlk;have hpw:=En.I p.2 (LB _ hpl);have lD:w2.heap[p.2]? =o_ (c_ (aX p.1) 125):=(rx.block p.2 (Kn hpw HO.I.size) (fun e=>by have:=KC e; omega)).trans (HO.I.eh.box p hp);have hrow:Row w2 p.1.aY (fk.flat p.1.prog):=(HLP.I p td).1.same fun g e=>by
    have hgb:g < bi:=(HLP.I p td).2.2 g (by show (p.1.aY).map (·.block)=o_ g; rw [show p.1.aY=o_ ⟨g,0,n_⟩ from e]; rfl);exact M_
   obtain ⟨a3,UY,w3,hap,sY,hg3⟩:=FR w2 p.1.aY p.1.prog p.1.bH hrow (HLP.I p td).2.1;have cc:w2.cell? ⟨p.2,2,n_⟩=o_ (s_ p.1.aY p.1.prog.length p.1.bH):=by simp [World.cell?,lD,aX]
   have oG:=(hg3.block p.2 (J2.1 lD).1 zy).trans lD;have cc3:w3.cell? ⟨p.2,2,n_⟩=o_ (s_ p.1.aY p.1.prog.length p.1.bH):=by simp [World.cell?,oG,aX]
   have cf3:w3.frozen? ⟨p.2,2,n_⟩=false:=by simp [World.frozen?,oG]
   have HN:=HO.I.ju (i:=2) hrg rx hrg2 En.I (Ki _) hp sY hg3 rfl;have Hb:bN (_/\_):=HN;have j6:bN (cnt2 < cnt/\tD.rangeLeft q.bp w.heap.size=cnt):=⟨oX,hrg.left_eq⟩
   simp only [dt] at hen;clear HN hrg hrg2 rx oE hkey hlk hv hat oX hpl td hpw lD oG hrow sY hg3;unfold dt;go_wp2_with (at_builtin; refine br _ rfl _ _ 123 rfl _ _ _ _ rfl rfl hap ?_; clear hap);go_roundw
   case rel=>exact ⟨_,_,_,Hb.I.2,Hb.I.1⟩
   case measure=>have h5:=Hb.I.2.left_eq; have h6:=j6.I; rw [h6.2]; exact Q5 (Nat.le_of_eq h5) h6.1
end
section
open Go.RowKit Go.Maps Go.Sort Go.Shelf

end
section
def api {p:Prop} (h:p):bN p:=h
def pi {Me:Int} {m:df} {id:Int} {ok vA vB vC vD:Bool} (hA:(cz m id).isSome=vA) (hB:decide (Me<=(m.length:Int))=vB) (hC:cv id 1 1000=vC) (hD:ok=vD):iI Me m id ok=(!vA && !vB && vC && vD):=by
 subst hA hB hC hD;have e:decide ((m.length:Int) < Me)= !decide (Me<=(m.length:Int)):=by
  by_cases h:Me<=(m.length:Int)
  .simp [h]
  .simp [h,Int.not_le.1 h]
 simp [iI,e]
end
section
attribute [local go_sem ↓] Kc Kd
def vY (w:w_) (b:Nat) (m:df) (Me:Int) (x:ao) (w':w_):Prop:=(w'.cell? ⟨w.heap.size,0,n_⟩=o_ (i_ j_ Me)/\w'.cell? ⟨w.heap.size,1,n_⟩=o_ (.map (o_ b))/\(∀ ty,(Builtin.len_ #[102] ty #[.map (o_ b)]).run J3 w'= .ok (i_ j_ (m.length:Int)) w')/\w'.cell? ⟨w.heap.size+1,0,n_⟩=o_ (i_ j_ x.id)/\w'.cell? ⟨w.heap.size+1,1,n_⟩=o_ (i_ j_ x.RX)/\w'.cell? ⟨w.heap.size+1,2,n_⟩=o_ (s_ x.aY x.prog.length x.bH)/\w'.cell? ⟨w.heap.size+1,3,n_⟩=o_ (i_ j_ x.Md)/\w'.cell? ⟨w.heap.size+1,4,n_⟩=o_ (i_ j_ x.pc)/\w'.cell? ⟨w.heap.size+1,5,n_⟩=o_ (i_ j_ x.left)/\w'.cell? ⟨w.heap.size+1,6,n_⟩=o_ (i_ j_ x.Mg)/\w'.cell? ⟨w.heap.size+1,7,n_⟩=o_ (i_ j_ x.on)/\w'.cell? ⟨w.heap.size+1,8,n_⟩=o_ (t_ x.held)/\w'.cell? ⟨w.heap.size+1,9,n_⟩=o_ (t_ x.got)/\w'.cell? ⟨w.heap.size+1,10,n_⟩=o_ (i_ j_ x.code)/\w'.cell? ⟨w.heap.size+1,11,n_⟩=o_ (i_ j_ x.RU))/\bN (fe w w' w.heap.size (w.heap.size+1) b m Me (aX x) 125 104)/\bN (eL w' x)
def iU {w w':w_} {b:Nat} {m:df} {Me:Int} {x:ao} (h:fe w w' w.heap.size (w.heap.size+1) b m Me (aX x) 125 104) (hf:eL w' x):vY w b m Me x w':=
 ⟨⟨h.cells.1,h.cells.2,fun ty=>h.mp.len underlying102 ty,bo h.bx⟩,h,hf⟩
def Bp (Me:Int) (b:Nat) (m:df) (x:ao) (w:w_) (h:cF w b m) (hw:(Lit.int j_ x.id).wf=true) (hm:m.length<=1048576) (hf:eL w x):
  k_ J3 142 #[a_ #[i_ j_ Me,.map (o_ b)],a_ (aX x)] w fun e w'=>dD w b m (iI Me m x.id (cH x.toaD)) x.id (aX x) 125 e w':=by
 have HF:bN (fe w ((w.alloc (c_ #[i_ j_ Me,.map (o_ b)] 104)).alloc (c_ (aX x) 125)) w.heap.size (w.heap.size+1) b m Me (aX x) 125 104):=fe.start w h Me _ _ _;have HW:bN ((Lit.int j_ x.id).wf=true/\ ¬ w.heap.size+1=b/\m.length<=1048576):=⟨hw,by have:=h.lt; omega,hm⟩
 have HI:bN (eL ((w.alloc (c_ #[i_ j_ Me,.map (o_ b)] 104)).alloc (c_ (aX x) 125)) x):=hf.below ((((Kp _ w).alloc (Ki _) _)).alloc zy _);have hmn:=ob;have hmr:=uB;obtain ⟨s0,s1⟩:=HF.I.cells;obtain ⟨c0,c1,c2,c3,c4,c5,c6,c7,c8,c9,qF,pe⟩:=bo HF.I.bx;clear h hw hf hm;unfold aX at *
 go_enter func142,ntmps142
 go_wp2_with fail;clear s0 s1 c0 c1 c2 c3 c4 c5 c6 c7 c8 c9 qF pe;obtain ⟨vA,hA⟩: ∃ v,(cz m x.id).isSome=v:=⟨_,rfl⟩
 obtain ⟨vB,F6⟩: ∃ v,decide (Me<=(m.length:Int))=v:=⟨_,rfl⟩
 obtain ⟨vC,hC⟩: ∃ v,cv x.id 1 1000=v:=⟨_,rfl⟩
 obtain ⟨vD,hD⟩: ∃ v,cH x.toaD=v:=⟨_,rfl⟩
 have HL:bN (iI Me m x.id (cH x.toaD)=(!vA && !vB && vC && vD)/\(vA=false->cz m x.id=n_)):=⟨pi hA F6 hC hD,fun e=>PX.1 (PY.1 (hA.trans e))⟩
 have HA:bN (Ending.returned (b_ (cz m x.id).isSome)=r_ (b_ vA)):=al hA;have HC:bN (Ending.returned (b_ (cv x.id 1 1000))=r_ (b_ vC)):=al hC;have HD:bN (Ending.returned (b_ (cH x.toaD))=r_ (b_ vD)):=al hD;clear hA hC hD;have u9: ∀ w0,vY w b m Me x w0->k_ J3 219 #[a_ (aX x)] w0 fun e w'=>e=r_ (i_ j_ x.id)/\vY w b m Me x w':=fun w0 h0=>(iK x w0).mono fun e w2 h=>⟨h.1,iU (h0.2.1.I.below h.2) (h0.2.2.I.below h.2)⟩
 have f9: ∀ w0,vY w b m Me x w0->k_ J3 173 #[a_ #[i_ j_ Me,.map (o_ b)],i_ j_ x.id] w0 fun e w'=>e=r_ (b_ vA)/\vY w b m Me x w':=fun w0 h0=>(BP Me b m x.id w0 h0.2.1.I.mp HW.I.1).mono fun e w2 h=>⟨h.1.trans HA.I,iU (h0.2.1.I.below h.2) (h0.2.2.I.below h.2)⟩
 have p5: ∀ w0,vY w b m Me x w0->k_ J3 174 #[i_ j_ x.id] w0 fun e w'=>e=r_ (b_ vC)/\vY w b m Me x w':=fun w0 h0=>(eW x.id w0).mono fun e w2 h=>⟨h.1.trans HC.I,h.2 ▸ h0⟩
 have abz: ∀ w0,vY w b m Me x w0->k_ J3 220 #[a_ (aX x)] w0 fun e w'=>e=r_ (b_ vD)/\vY w b m Me x w':=fun w0 h0=>(wo x w0 h0.2.2.I).mono fun e w2 h=>⟨h.1.trans HD.I,iU (h0.2.1.I.below h.2) (h0.2.2.I.below h.2)⟩
 unfold aX at u9 abz;have anY: ∀ w0,fe w w0 w.heap.size (w.heap.size+1) b m Me (aX x) 125 104->eL w0 x->vY w b m Me x w0:=fun _ h1 h2=>iU h1 h2
 have an0:=underlying102;refine aT (vY w b m Me x) ZbY (anY _ HF.I.drew (HI.I.below (Kp _ _).drew)) ?_
 exact ab
def vk (w:w_) (b:Nat) (m:df) (Me:Int) (x:aM) (w':w_):Prop:=(w'.cell? ⟨w.heap.size,0,n_⟩=o_ (i_ j_ Me)/\w'.cell? ⟨w.heap.size,1,n_⟩=o_ (.map (o_ b))/\(∀ ty,(Builtin.len_ #[117] ty #[.map (o_ b)]).run J3 w'= .ok (i_ j_ (m.length:Int)) w')/\w'.cell? ⟨w.heap.size+1,0,n_⟩=o_ (i_ j_ x.id)/\w'.cell? ⟨w.heap.size+1,1,n_⟩=o_ (b_ x.I)/\w'.cell? ⟨w.heap.size+1,2,n_⟩=o_ (b_ x.Mf)/\w'.cell? ⟨w.heap.size+1,3,n_⟩=o_ (i_ j_ x.max)/\w'.cell? ⟨w.heap.size+1,4,n_⟩=o_ (s_ x.ak x.Ma.length x.aq))/\bN (fe w w' w.heap.size (w.heap.size+1) b m Me (cW x) 51 119)/\bN (jf w' x)
def iW {w w':w_} {b:Nat} {m:df} {Me:Int} {x:aM} (h:fe w w' w.heap.size (w.heap.size+1) b m Me (cW x) 51 119) (hf:jf w' x):vk w b m Me x w':=
 ⟨⟨h.cells.1,h.cells.2,fun ty=>h.mp.len underlying117 ty,gE h.bx⟩,h,hf⟩
def tb (Me:Int) (b:Nat) (m:df) (x:aM) (w:w_) (h:cF w b m) (hw:(Lit.int j_ x.id).wf=true) (hm:m.length<=1048576) (hf:jf w x):
  k_ J3 147 #[a_ #[i_ j_ Me,.map (o_ b)],a_ (cW x)] w fun e w'=>dD w b m (iI Me m x.id (dj x.todS)) x.id (cW x) 51 e w':=by
 have HF:bN (fe w ((w.alloc (c_ #[i_ j_ Me,.map (o_ b)] 119)).alloc (c_ (cW x) 51)) w.heap.size (w.heap.size+1) b m Me (cW x) 51 119):=fe.start w h Me _ _ _;have HW:bN ((Lit.int j_ x.id).wf=true/\ ¬ w.heap.size+1=b/\m.length<=1048576):=⟨hw,by have:=h.lt; omega,hm⟩
 have HI:bN (jf ((w.alloc (c_ #[i_ j_ Me,.map (o_ b)] 119)).alloc (c_ (cW x) 51)) x):=hf.below ((((Kp _ w).alloc (Ki _) _)).alloc zy _);have hmn:=nY;have hmr:=vZ;obtain ⟨s0,s1⟩:=HF.I.cells;obtain ⟨c0,c1,c2,c3,c4⟩:=gE HF.I.bx;clear h hw hf hm;unfold cW at *
 go_enter func147,ntmps147
 go_wp2_with fail;clear s0 s1 c0 c1 c2 c3 c4;obtain ⟨vA,hA⟩: ∃ v,(cz m x.id).isSome=v:=⟨_,rfl⟩
 obtain ⟨vB,F6⟩: ∃ v,decide (Me<=(m.length:Int))=v:=⟨_,rfl⟩
 obtain ⟨vC,hC⟩: ∃ v,cv x.id 1 1000=v:=⟨_,rfl⟩
 obtain ⟨vD,hD⟩: ∃ v,dj x.todS=v:=⟨_,rfl⟩
 have HL:bN (iI Me m x.id (dj x.todS)=(!vA && !vB && vC && vD)/\(vA=false->cz m x.id=n_)):=⟨pi hA F6 hC hD,fun e=>PX.1 (PY.1 (hA.trans e))⟩
 have HA:bN (Ending.returned (b_ (cz m x.id).isSome)=r_ (b_ vA)):=al hA;have HC:bN (Ending.returned (b_ (cv x.id 1 1000))=r_ (b_ vC)):=al hC;have HD:bN (Ending.returned (b_ (dj x.todS))=r_ (b_ vD)):=al hD;clear hA hC hD;have u9: ∀ w0,vk w b m Me x w0->k_ J3 207 #[a_ (cW x)] w0 fun e w'=>e=r_ (i_ j_ x.id)/\vk w b m Me x w':=fun w0 h0=>(iN x w0).mono fun e w2 h=>⟨h.1,iW (h0.2.1.I.below h.2) (h0.2.2.I.below h.2)⟩
 have f9: ∀ w0,vk w b m Me x w0->k_ J3 179 #[a_ #[i_ j_ Me,.map (o_ b)],i_ j_ x.id] w0 fun e w'=>e=r_ (b_ vA)/\vk w b m Me x w':=fun w0 h0=>(Bb Me b m x.id w0 h0.2.1.I.mp HW.I.1).mono fun e w2 h=>⟨h.1.trans HA.I,iW (h0.2.1.I.below h.2) (h0.2.2.I.below h.2)⟩
 have p5: ∀ w0,vk w b m Me x w0->k_ J3 174 #[i_ j_ x.id] w0 fun e w'=>e=r_ (b_ vC)/\vk w b m Me x w':=fun w0 h0=>(eW x.id w0).mono fun e w2 h=>⟨h.1.trans HC.I,h.2 ▸ h0⟩
 have abz: ∀ w0,vk w b m Me x w0->k_ J3 208 #[a_ (cW x)] w0 fun e w'=>e=r_ (b_ vD)/\vk w b m Me x w':=fun w0 h0=>(wG x w0 h0.2.2.I).mono fun e w2 h=>⟨h.1.trans HD.I,iW (h0.2.1.I.below h.2) (h0.2.2.I.below h.2)⟩
 unfold cW at u9 abz;have anY: ∀ w0,fe w w0 w.heap.size (w.heap.size+1) b m Me (cW x) 51 119->jf w0 x->vk w b m Me x w0:=fun _ h1 h2=>iW h1 h2
 have an0:=underlying117;refine aT (vk w b m Me x) ZbY (anY _ HF.I.drew (HI.I.below (Kp _ _).drew)) ?_
 exact ab
def qq (w:w_) (b:Nat) (m:df) (Me:Int) (x:au) (w':w_):Prop:=(w'.cell? ⟨w.heap.size,0,n_⟩=o_ (i_ j_ Me)/\w'.cell? ⟨w.heap.size,1,n_⟩=o_ (.map (o_ b))/\(∀ ty,(Builtin.len_ #[114] ty #[.map (o_ b)]).run J3 w'= .ok (i_ j_ (m.length:Int)) w')/\w'.cell? ⟨w.heap.size+1,0,n_⟩=o_ (i_ j_ x.id)/\w'.cell? ⟨w.heap.size+1,1,n_⟩=o_ (i_ j_ x.max)/\w'.cell? ⟨w.heap.size+1,2,n_⟩=o_ (s_ x.ak x.Ma.length x.aq))/\bN (fe w w' w.heap.size (w.heap.size+1) b m Me (bQ x) 137 116)/\bN (fM w' x)
def gB {w w':w_} {b:Nat} {m:df} {Me:Int} {x:au} (h:fe w w' w.heap.size (w.heap.size+1) b m Me (bQ x) 137 116) (hf:fM w' x):qq w b m Me x w':=
 ⟨⟨h.cells.1,h.cells.2,fun ty=>h.mp.len underlying114 ty,ia h.bx⟩,h,hf⟩
def pV (Me:Int) (b:Nat) (m:df) (x:au) (w:w_) (h:cF w b m) (hw:(Lit.int j_ x.id).wf=true) (hm:m.length<=1048576) (hf:fM w x):
  k_ J3 146 #[a_ #[i_ j_ Me,.map (o_ b)],a_ (bQ x)] w fun e w'=>dD w b m (iI Me m x.id (ct x.toci)) x.id (bQ x) 137 e w':=by
 have HF:bN (fe w ((w.alloc (c_ #[i_ j_ Me,.map (o_ b)] 116)).alloc (c_ (bQ x) 137)) w.heap.size (w.heap.size+1) b m Me (bQ x) 137 116):=fe.start w h Me _ _ _;have HW:bN ((Lit.int j_ x.id).wf=true/\ ¬ w.heap.size+1=b/\m.length<=1048576):=⟨hw,by have:=h.lt; omega,hm⟩
 have HI:bN (fM ((w.alloc (c_ #[i_ j_ Me,.map (o_ b)] 116)).alloc (c_ (bQ x) 137)) x):=hf.below ((((Kp _ w).alloc (Ki _) _)).alloc zy _);have hmn:=mc;have hmr:=se;obtain ⟨s0,s1⟩:=HF.I.cells;obtain ⟨c0,c1,c2⟩:=ia HF.I.bx;clear h hw hf hm;unfold bQ at *
 go_enter func146,ntmps146
 go_wp2_with fail;clear s0 s1 c0 c1 c2;obtain ⟨vA,hA⟩: ∃ v,(cz m x.id).isSome=v:=⟨_,rfl⟩
 obtain ⟨vB,F6⟩: ∃ v,decide (Me<=(m.length:Int))=v:=⟨_,rfl⟩
 obtain ⟨vC,hC⟩: ∃ v,cv x.id 1 1000=v:=⟨_,rfl⟩
 obtain ⟨vD,hD⟩: ∃ v,ct x.toci=v:=⟨_,rfl⟩
 have HL:bN (iI Me m x.id (ct x.toci)=(!vA && !vB && vC && vD)/\(vA=false->cz m x.id=n_)):=⟨pi hA F6 hC hD,fun e=>PX.1 (PY.1 (hA.trans e))⟩
 have HA:bN (Ending.returned (b_ (cz m x.id).isSome)=r_ (b_ vA)):=al hA;have HC:bN (Ending.returned (b_ (cv x.id 1 1000))=r_ (b_ vC)):=al hC;have HD:bN (Ending.returned (b_ (ct x.toci))=r_ (b_ vD)):=al hD;clear hA hC hD;have u9: ∀ w0,qq w b m Me x w0->k_ J3 239 #[a_ (bQ x)] w0 fun e w'=>e=r_ (i_ j_ x.id)/\qq w b m Me x w':=fun w0 h0=>(gP x w0).mono fun e w2 h=>⟨h.1,gB (h0.2.1.I.below h.2) (h0.2.2.I.below h.2)⟩
 have f9: ∀ w0,qq w b m Me x w0->k_ J3 178 #[a_ #[i_ j_ Me,.map (o_ b)],i_ j_ x.id] w0 fun e w'=>e=r_ (b_ vA)/\qq w b m Me x w':=fun w0 h0=>(mE Me b m x.id w0 h0.2.1.I.mp HW.I.1).mono fun e w2 h=>⟨h.1.trans HA.I,gB (h0.2.1.I.below h.2) (h0.2.2.I.below h.2)⟩
 have p5: ∀ w0,qq w b m Me x w0->k_ J3 174 #[i_ j_ x.id] w0 fun e w'=>e=r_ (b_ vC)/\qq w b m Me x w':=fun w0 h0=>(eW x.id w0).mono fun e w2 h=>⟨h.1.trans HC.I,h.2 ▸ h0⟩
 have abz: ∀ w0,qq w b m Me x w0->k_ J3 240 #[a_ (bQ x)] w0 fun e w'=>e=r_ (b_ vD)/\qq w b m Me x w':=fun w0 h0=>(Sr x w0 h0.2.2.I).mono fun e w2 h=>⟨h.1.trans HD.I,gB (h0.2.1.I.below h.2) (h0.2.2.I.below h.2)⟩
 unfold bQ at u9 abz;have anY: ∀ w0,fe w w0 w.heap.size (w.heap.size+1) b m Me (bQ x) 137 116->fM w0 x->qq w b m Me x w0:=fun _ h1 h2=>gB h1 h2
 have an0:=underlying114;refine aT (qq w b m Me x) ZbY (anY _ HF.I.drew (HI.I.below (Kp _ _).drew)) ?_
 exact ab
def rP (w:w_) (b:Nat) (m:df) (Me:Int) (x:az) (w':w_):Prop:=(w'.cell? ⟨w.heap.size,0,n_⟩=o_ (i_ j_ Me)/\w'.cell? ⟨w.heap.size,1,n_⟩=o_ (.map (o_ b))/\(∀ ty,(Builtin.len_ #[111] ty #[.map (o_ b)]).run J3 w'= .ok (i_ j_ (m.length:Int)) w')/\w'.cell? ⟨w.heap.size+1,0,n_⟩=o_ (i_ j_ x.id)/\w'.cell? ⟨w.heap.size+1,1,n_⟩=o_ (b_ x.shown)/\w'.cell? ⟨w.heap.size+1,2,n_⟩=o_ (t_ x.text))/\bN (fe w w' w.heap.size (w.heap.size+1) b m Me (cI x) 134 113)/\bN (gX w' x)
def ii {w w':w_} {b:Nat} {m:df} {Me:Int} {x:az} (h:fe w w' w.heap.size (w.heap.size+1) b m Me (cI x) 134 113) (hf:gX w' x):rP w b m Me x w':=
 ⟨⟨h.cells.1,h.cells.2,fun ty=>h.mp.len underlying111 ty,kJ h.bx⟩,h,hf⟩
def rr (Me:Int) (b:Nat) (m:df) (x:az) (w:w_) (h:cF w b m) (hw:(Lit.int j_ x.id).wf=true) (hm:m.length<=1048576) (hf:gX w x):
  k_ J3 145 #[a_ #[i_ j_ Me,.map (o_ b)],a_ (cI x)] w fun e w'=>dD w b m (iI Me m x.id (cU x)) x.id (cI x) 134 e w':=by
 have HF:bN (fe w ((w.alloc (c_ #[i_ j_ Me,.map (o_ b)] 113)).alloc (c_ (cI x) 134)) w.heap.size (w.heap.size+1) b m Me (cI x) 134 113):=fe.start w h Me _ _ _;have HW:bN ((Lit.int j_ x.id).wf=true/\ ¬ w.heap.size+1=b/\m.length<=1048576):=⟨hw,by have:=h.lt; omega,hm⟩
 have HI:bN (gX ((w.alloc (c_ #[i_ j_ Me,.map (o_ b)] 113)).alloc (c_ (cI x) 134)) x):=hf.below ((((Kp _ w).alloc (Ki _) _)).alloc zy _);have hmn:=nr;have hmr:=tq;obtain ⟨s0,s1⟩:=HF.I.cells;obtain ⟨c0,c1,c2⟩:=kJ HF.I.bx;clear h hw hf hm;unfold cI at *
 go_enter func145,ntmps145
 go_wp2_with fail;clear s0 s1 c0 c1 c2;obtain ⟨vA,hA⟩: ∃ v,(cz m x.id).isSome=v:=⟨_,rfl⟩
 obtain ⟨vB,F6⟩: ∃ v,decide (Me<=(m.length:Int))=v:=⟨_,rfl⟩
 obtain ⟨vC,hC⟩: ∃ v,cv x.id 1 1000=v:=⟨_,rfl⟩
 obtain ⟨vD,hD⟩: ∃ v,cU x=v:=⟨_,rfl⟩
 have HL:bN (iI Me m x.id (cU x)=(!vA && !vB && vC && vD)/\(vA=false->cz m x.id=n_)):=⟨pi hA F6 hC hD,fun e=>PX.1 (PY.1 (hA.trans e))⟩
 have HA:bN (Ending.returned (b_ (cz m x.id).isSome)=r_ (b_ vA)):=al hA;have HC:bN (Ending.returned (b_ (cv x.id 1 1000))=r_ (b_ vC)):=al hC;have HD:bN (Ending.returned (b_ (cU x))=r_ (b_ vD)):=al hD;clear hA hC hD;have u9: ∀ w0,rP w b m Me x w0->k_ J3 236 #[a_ (cI x)] w0 fun e w'=>e=r_ (i_ j_ x.id)/\rP w b m Me x w':=fun w0 h0=>(iq x w0).mono fun e w2 h=>⟨h.1,ii (h0.2.1.I.below h.2) (h0.2.2.I.below h.2)⟩
 have f9: ∀ w0,rP w b m Me x w0->k_ J3 177 #[a_ #[i_ j_ Me,.map (o_ b)],i_ j_ x.id] w0 fun e w'=>e=r_ (b_ vA)/\rP w b m Me x w':=fun w0 h0=>(qM Me b m x.id w0 h0.2.1.I.mp HW.I.1).mono fun e w2 h=>⟨h.1.trans HA.I,ii (h0.2.1.I.below h.2) (h0.2.2.I.below h.2)⟩
 have p5: ∀ w0,rP w b m Me x w0->k_ J3 174 #[i_ j_ x.id] w0 fun e w'=>e=r_ (b_ vC)/\rP w b m Me x w':=fun w0 h0=>(eW x.id w0).mono fun e w2 h=>⟨h.1.trans HC.I,h.2 ▸ h0⟩
 have abz: ∀ w0,rP w b m Me x w0->k_ J3 237 #[a_ (cI x)] w0 fun e w'=>e=r_ (b_ vD)/\rP w b m Me x w':=fun w0 h0=>(wd x w0 h0.2.2.I).mono fun e w2 h=>⟨h.1.trans HD.I,ii (h0.2.1.I.below h.2) (h0.2.2.I.below h.2)⟩
 unfold cI at u9 abz;have anY: ∀ w0,fe w w0 w.heap.size (w.heap.size+1) b m Me (cI x) 134 113->gX w0 x->rP w b m Me x w0:=fun _ h1 h2=>ii h1 h2
 have an0:=underlying111;refine aT (rP w b m Me x) ZbY (anY _ HF.I.drew (HI.I.below (Kp _ _).drew)) ?_
 exact ab
def yk (w:w_) (b:Nat) (m:df) (Me:Int) (x:bD) (w':w_):Prop:=(w'.cell? ⟨w.heap.size,0,n_⟩=o_ (i_ j_ Me)/\w'.cell? ⟨w.heap.size,1,n_⟩=o_ (.map (o_ b))/\(∀ ty,(Builtin.len_ #[105] ty #[.map (o_ b)]).run J3 w'= .ok (i_ j_ (m.length:Int)) w')/\w'.cell? ⟨w.heap.size+1,0,n_⟩=o_ (i_ j_ x.id)/\w'.cell? ⟨w.heap.size+1,1,n_⟩=o_ (i_ j_ x.n)/\w'.cell? ⟨w.heap.size+1,2,n_⟩=o_ (i_ j_ x.max))/\bN (fe w w' w.heap.size (w.heap.size+1) b m Me (eH x) 128 107)/\bN (kU w' x)
def jz {w w':w_} {b:Nat} {m:df} {Me:Int} {x:bD} (h:fe w w' w.heap.size (w.heap.size+1) b m Me (eH x) 128 107) (hf:kU w' x):yk w b m Me x w':=
 ⟨⟨h.cells.1,h.cells.2,fun ty=>h.mp.len underlying105 ty,gm h.bx⟩,h,hf⟩
def tU (Me:Int) (b:Nat) (m:df) (x:bD) (w:w_) (h:cF w b m) (hw:(Lit.int j_ x.id).wf=true) (hm:m.length<=1048576) (hf:kU w x):
  k_ J3 143 #[a_ #[i_ j_ Me,.map (o_ b)],a_ (eH x)] w fun e w'=>dD w b m (iI Me m x.id (gw x)) x.id (eH x) 128 e w':=by
 have HF:bN (fe w ((w.alloc (c_ #[i_ j_ Me,.map (o_ b)] 107)).alloc (c_ (eH x) 128)) w.heap.size (w.heap.size+1) b m Me (eH x) 128 107):=fe.start w h Me _ _ _;have HW:bN ((Lit.int j_ x.id).wf=true/\ ¬ w.heap.size+1=b/\m.length<=1048576):=⟨hw,by have:=h.lt; omega,hm⟩
 have HI:bN (kU ((w.alloc (c_ #[i_ j_ Me,.map (o_ b)] 107)).alloc (c_ (eH x) 128)) x):=hf.below ((((Kp _ w).alloc (Ki _) _)).alloc zy _);have hmn:=pb;have hmr:=wW;obtain ⟨s0,s1⟩:=HF.I.cells;obtain ⟨c0,c1,c2⟩:=gm HF.I.bx;clear h hw hf hm;unfold eH at *
 go_enter func143,ntmps143
 go_wp2_with fail;clear s0 s1 c0 c1 c2;obtain ⟨vA,hA⟩: ∃ v,(cz m x.id).isSome=v:=⟨_,rfl⟩
 obtain ⟨vB,F6⟩: ∃ v,decide (Me<=(m.length:Int))=v:=⟨_,rfl⟩
 obtain ⟨vC,hC⟩: ∃ v,cv x.id 1 1000=v:=⟨_,rfl⟩
 obtain ⟨vD,hD⟩: ∃ v,gw x=v:=⟨_,rfl⟩
 have HL:bN (iI Me m x.id (gw x)=(!vA && !vB && vC && vD)/\(vA=false->cz m x.id=n_)):=⟨pi hA F6 hC hD,fun e=>PX.1 (PY.1 (hA.trans e))⟩
 have HA:bN (Ending.returned (b_ (cz m x.id).isSome)=r_ (b_ vA)):=al hA;have HC:bN (Ending.returned (b_ (cv x.id 1 1000))=r_ (b_ vC)):=al hC;have HD:bN (Ending.returned (b_ (gw x))=r_ (b_ vD)):=al hD;clear hA hC hD;have u9: ∀ w0,yk w b m Me x w0->k_ J3 230 #[a_ (eH x)] w0 fun e w'=>e=r_ (i_ j_ x.id)/\yk w b m Me x w':=fun w0 h0=>(jv x w0).mono fun e w2 h=>⟨h.1,jz (h0.2.1.I.below h.2) (h0.2.2.I.below h.2)⟩
 have f9: ∀ w0,yk w b m Me x w0->k_ J3 175 #[a_ #[i_ j_ Me,.map (o_ b)],i_ j_ x.id] w0 fun e w'=>e=r_ (b_ vA)/\yk w b m Me x w':=fun w0 h0=>(tZ Me b m x.id w0 h0.2.1.I.mp HW.I.1).mono fun e w2 h=>⟨h.1.trans HA.I,jz (h0.2.1.I.below h.2) (h0.2.2.I.below h.2)⟩
 have p5: ∀ w0,yk w b m Me x w0->k_ J3 174 #[i_ j_ x.id] w0 fun e w'=>e=r_ (b_ vC)/\yk w b m Me x w':=fun w0 h0=>(eW x.id w0).mono fun e w2 h=>⟨h.1.trans HC.I,h.2 ▸ h0⟩
 have abz: ∀ w0,yk w b m Me x w0->k_ J3 231 #[a_ (eH x)] w0 fun e w'=>e=r_ (b_ vD)/\yk w b m Me x w':=fun w0 h0=>(ye x w0 h0.2.2.I).mono fun e w2 h=>⟨h.1.trans HD.I,jz (h0.2.1.I.below h.2) (h0.2.2.I.below h.2)⟩
 unfold eH at u9 abz;have anY: ∀ w0,fe w w0 w.heap.size (w.heap.size+1) b m Me (eH x) 128 107->kU w0 x->yk w b m Me x w0:=fun _ h1 h2=>jz h1 h2
 have an0:=underlying105;refine aT (yk w b m Me x) ZbY (anY _ HF.I.drew (HI.I.below (Kp _ _).drew)) ?_
 exact ab
def sk (w:w_) (b:Nat) (m:df) (Me:Int) (x:aB) (w':w_):Prop:=(w'.cell? ⟨w.heap.size,0,n_⟩=o_ (i_ j_ Me)/\w'.cell? ⟨w.heap.size,1,n_⟩=o_ (.map (o_ b))/\(∀ ty,(Builtin.len_ #[108] ty #[.map (o_ b)]).run J3 w'= .ok (i_ j_ (m.length:Int)) w')/\w'.cell? ⟨w.heap.size+1,0,n_⟩=o_ (i_ j_ x.id)/\w'.cell? ⟨w.heap.size+1,1,n_⟩=o_ (b_ x.up))/\bN (fe w w' w.heap.size (w.heap.size+1) b m Me (cG x) 131 110)/\bN (ix w' x)
def ik {w w':w_} {b:Nat} {m:df} {Me:Int} {x:aB} (h:fe w w' w.heap.size (w.heap.size+1) b m Me (cG x) 131 110) (hf:ix w' x):sk w b m Me x w':=
 ⟨⟨h.cells.1,h.cells.2,fun ty=>h.mp.len underlying108 ty,kF h.bx⟩,h,hf⟩
def rC (Me:Int) (b:Nat) (m:df) (x:aB) (w:w_) (h:cF w b m) (hw:(Lit.int j_ x.id).wf=true) (hm:m.length<=1048576) (hf:ix w x):
  k_ J3 144 #[a_ #[i_ j_ Me,.map (o_ b)],a_ (cG x)] w fun e w'=>dD w b m (iI Me m x.id (ey x)) x.id (cG x) 131 e w':=by
 have HF:bN (fe w ((w.alloc (c_ #[i_ j_ Me,.map (o_ b)] 110)).alloc (c_ (cG x) 131)) w.heap.size (w.heap.size+1) b m Me (cG x) 131 110):=fe.start w h Me _ _ _;have HW:bN ((Lit.int j_ x.id).wf=true/\ ¬ w.heap.size+1=b/\m.length<=1048576):=⟨hw,by have:=h.lt; omega,hm⟩
 have HI:bN (ix ((w.alloc (c_ #[i_ j_ Me,.map (o_ b)] 110)).alloc (c_ (cG x) 131)) x):=hf.below ((((Kp _ w).alloc (Ki _) _)).alloc zy _);have hmn:=mT;have hmr:=tp;obtain ⟨s0,s1⟩:=HF.I.cells;obtain ⟨c0,c1⟩:=kF HF.I.bx;clear h hw hf hm;unfold cG at *
 go_enter func144,ntmps144
 go_wp2_with fail;clear s0 s1 c0 c1;obtain ⟨vA,hA⟩: ∃ v,(cz m x.id).isSome=v:=⟨_,rfl⟩
 obtain ⟨vB,F6⟩: ∃ v,decide (Me<=(m.length:Int))=v:=⟨_,rfl⟩
 obtain ⟨vC,hC⟩: ∃ v,cv x.id 1 1000=v:=⟨_,rfl⟩
 obtain ⟨vD,hD⟩: ∃ v,ey x=v:=⟨_,rfl⟩
 have HL:bN (iI Me m x.id (ey x)=(!vA && !vB && vC && vD)/\(vA=false->cz m x.id=n_)):=⟨pi hA F6 hC hD,fun e=>PX.1 (PY.1 (hA.trans e))⟩
 have HA:bN (Ending.returned (b_ (cz m x.id).isSome)=r_ (b_ vA)):=al hA;have HC:bN (Ending.returned (b_ (cv x.id 1 1000))=r_ (b_ vC)):=al hC;have HD:bN (Ending.returned (b_ (ey x))=r_ (b_ vD)):=al hD;clear hA hC hD;have u9: ∀ w0,sk w b m Me x w0->k_ J3 233 #[a_ (cG x)] w0 fun e w'=>e=r_ (i_ j_ x.id)/\sk w b m Me x w':=fun w0 h0=>(iw x w0).mono fun e w2 h=>⟨h.1,ik (h0.2.1.I.below h.2) (h0.2.2.I.below h.2)⟩
 have f9: ∀ w0,sk w b m Me x w0->k_ J3 176 #[a_ #[i_ j_ Me,.map (o_ b)],i_ j_ x.id] w0 fun e w'=>e=r_ (b_ vA)/\sk w b m Me x w':=fun w0 h0=>(rj Me b m x.id w0 h0.2.1.I.mp HW.I.1).mono fun e w2 h=>⟨h.1.trans HA.I,ik (h0.2.1.I.below h.2) (h0.2.2.I.below h.2)⟩
 have p5: ∀ w0,sk w b m Me x w0->k_ J3 174 #[i_ j_ x.id] w0 fun e w'=>e=r_ (b_ vC)/\sk w b m Me x w':=fun w0 h0=>(eW x.id w0).mono fun e w2 h=>⟨h.1.trans HC.I,h.2 ▸ h0⟩
 have abz: ∀ w0,sk w b m Me x w0->k_ J3 234 #[a_ (cG x)] w0 fun e w'=>e=r_ (b_ vD)/\sk w b m Me x w':=fun w0 h0=>(tX x w0 h0.2.2.I).mono fun e w2 h=>⟨h.1.trans HD.I,ik (h0.2.1.I.below h.2) (h0.2.2.I.below h.2)⟩
 unfold cG at u9 abz;have anY: ∀ w0,fe w w0 w.heap.size (w.heap.size+1) b m Me (cG x) 131 110->ix w0 x->sk w b m Me x w0:=fun _ h1 h2=>ik h1 h2
 have an0:=underlying108;refine aT (sk w b m Me x) ZbY (anY _ HF.I.drew (HI.I.below (Kp _ _).drew)) ?_
 exact ab
def Dj (w:w_) (Me:Int) (da:List au) (k:Nat) (wr:w_):Prop:=
 ∃ l:List (au × Nat),l.map (·.1)=da.take k/\eS bQ (fun x:au=>x.id) 137 116 w wr Me l/\aw (fun x:au=>x.id) (fun x:au=>ct x.toci) 0 (da.take k)=true/\(k:Int)<=max Me 0
def rH (a:Option d_) (da:List au) (cap:Nat) (Me:Int) (w:w_) (hl:da.length<=1048576) (h:bm.bU w a da) (hf: ∀ x∈da,fM w x) (hw: ∀ x∈da,(Lit.int j_ x.id).wf=true):
  k_ J3 102 #[s_ a da.length cap,i_ j_ Me] w fun e w'=>jN bQ (fun x:au=>x.id) 137 w Me (aw (fun x:au=>x.id) (fun x:au=>ct x.toci) 0 da && decide ((da.length:Int)<=max Me 0)) da e w':=by
 have hmk:=P4 (P:=J3) 114;have hmn:=mc;have H0:bN (eS bQ (fun x:au=>x.id) 137 116 w (((w.alloc (c_ #[i_ j_ 0,.map n_] 116)).alloc (.map #[] 0)).alloc (c_ #[i_ j_ Me,.map (o_ (w.heap.size+1))] 116)) Me []):=eS.start 116 w Me;have HL:bN (bm.bU w a da/\(∀ x∈da,fM w x)/\ ∀ x∈da,(Lit.int j_ x.id).wf=true):=⟨h,hf,hw⟩
 clear h hf hw;generalize hTB:(aw (fun x:au=>x.id) (fun x:au=>ct x.toci) 0 da && decide ((da.length:Int)<=max Me 0))=anL;have HTB:bN (_=anL):=hTB;clear hTB
 go_enter func102,ntmps102
 go_wp2_with fail;have alN:= @iA;have anw:= @gP;have anz:= @pV;have bA:= @ia;have anG: ∀ (x:au) (W:w_) (g:Nat),W.heap[g]? =o_ (c_ (bQ x) 137)->bN (W.heap[g]? =o_ (c_ (bQ x) 137)):=fun _ _ _ h=>h
 have anQ:=results102
 go_loopw [7,15] (fun last i wr=> ∃ k:Nat,k<=da.length/\i=i_ j_ k/\last=i_ j_ (bW (·.id) 0 (da.take k))/\bN (Dj w Me da k wr)) (fun _ i _=>da.length - (intOf i).toNat)
 case atStart=>exact ⟨0,Ky _,rfl,rfl,⟨[],by simp,H0.I,rfl,by simp; omega⟩⟩
 case round=>
  exact aa
def Ho (w:w_) (Me:Int) (da:List ao) (k:Nat) (wr:w_):Prop:=
 ∃ l:List (ao × Nat),l.map (·.1)=da.take k/\eS aX (fun x:ao=>x.id) 125 104 w wr Me l/\aw (fun x:ao=>x.id) (fun x:ao=>cH x.toaD) 0 (da.take k)=true/\(k:Int)<=max Me 0
def tw (a:Option d_) (da:List ao) (cap:Nat) (Me:Int) (w:w_) (hl:da.length<=1048576) (h:bg.bU w a da) (hf: ∀ x∈da,eL w x) (hw: ∀ x∈da,(Lit.int j_ x.id).wf=true):
  k_ J3 98 #[s_ a da.length cap,i_ j_ Me] w fun e w'=>jN aX (fun x:ao=>x.id) 125 w Me (aw (fun x:ao=>x.id) (fun x:ao=>cH x.toaD) 0 da && decide ((da.length:Int)<=max Me 0)) da e w':=by
 have hmk:=P4 (P:=J3) 102;have hmn:=ob;have H0:bN (eS aX (fun x:ao=>x.id) 125 104 w (((w.alloc (c_ #[i_ j_ 0,.map n_] 104)).alloc (.map #[] 0)).alloc (c_ #[i_ j_ Me,.map (o_ (w.heap.size+1))] 104)) Me []):=eS.start 104 w Me;have HL:bN (bg.bU w a da/\(∀ x∈da,eL w x)/\ ∀ x∈da,(Lit.int j_ x.id).wf=true):=⟨h,hf,hw⟩
 clear h hf hw;generalize hTB:(aw (fun x:ao=>x.id) (fun x:ao=>cH x.toaD) 0 da && decide ((da.length:Int)<=max Me 0))=anL;have HTB:bN (_=anL):=hTB;clear hTB
 go_enter func98,ntmps98
 go_wp2_with fail;have alN:= @cn;have anw:= @iK;have anz:= @Bp;have bA:= @bo;have anG: ∀ (x:ao) (W:w_) (g:Nat),W.heap[g]? =o_ (c_ (aX x) 125)->bN (W.heap[g]? =o_ (c_ (aX x) 125)):=fun _ _ _ h=>h
 have anQ:=results98
 go_loopw [7,15] (fun last i wr=> ∃ k:Nat,k<=da.length/\i=i_ j_ k/\last=i_ j_ (bW (·.id) 0 (da.take k))/\bN (Ho w Me da k wr)) (fun _ i _=>da.length - (intOf i).toNat)
 case atStart=>exact ⟨0,Ky _,rfl,rfl,⟨[],by simp,H0.I,rfl,by simp; omega⟩⟩
 case round=>
  exact aa
def F3 (w:w_) (Me:Int) (da:List aM) (k:Nat) (wr:w_):Prop:=
 ∃ l:List (aM × Nat),l.map (·.1)=da.take k/\eS cW (fun x:aM=>x.id) 51 119 w wr Me l/\aw (fun x:aM=>x.id) (fun x:aM=>dj x.todS) 0 (da.take k)=true/\(k:Int)<=max Me 0
def tB (a:Option d_) (da:List aM) (cap:Nat) (Me:Int) (w:w_) (hl:da.length<=1048576) (h:bX.bU w a da) (hf: ∀ x∈da,jf w x) (hw: ∀ x∈da,(Lit.int j_ x.id).wf=true):
  k_ J3 103 #[s_ a da.length cap,i_ j_ Me] w fun e w'=>jN cW (fun x:aM=>x.id) 51 w Me (aw (fun x:aM=>x.id) (fun x:aM=>dj x.todS) 0 da && decide ((da.length:Int)<=max Me 0)) da e w':=by
 have hmk:=P4 (P:=J3) 117;have hmn:=nY;have H0:bN (eS cW (fun x:aM=>x.id) 51 119 w (((w.alloc (c_ #[i_ j_ 0,.map n_] 119)).alloc (.map #[] 0)).alloc (c_ #[i_ j_ Me,.map (o_ (w.heap.size+1))] 119)) Me []):=eS.start 119 w Me;have HL:bN (bX.bU w a da/\(∀ x∈da,jf w x)/\ ∀ x∈da,(Lit.int j_ x.id).wf=true):=⟨h,hf,hw⟩
 clear h hf hw;generalize hTB:(aw (fun x:aM=>x.id) (fun x:aM=>dj x.todS) 0 da && decide ((da.length:Int)<=max Me 0))=anL;have HTB:bN (_=anL):=hTB;clear hTB
 go_enter func103,ntmps103
 go_wp2_with fail;have alN:= @lm;have anw:= @iN;have anz:= @tb;have bA:= @gE;have anG: ∀ (x:aM) (W:w_) (g:Nat),W.heap[g]? =o_ (c_ (cW x) 51)->bN (W.heap[g]? =o_ (c_ (cW x) 51)):=fun _ _ _ h=>h
 have anQ:=results103
 go_loopw [7,15] (fun last i wr=> ∃ k:Nat,k<=da.length/\i=i_ j_ k/\last=i_ j_ (bW (·.id) 0 (da.take k))/\bN (F3 w Me da k wr)) (fun _ i _=>da.length - (intOf i).toNat)
 case atStart=>exact ⟨0,Ky _,rfl,rfl,⟨[],by simp,H0.I,rfl,by simp; omega⟩⟩
 case round=>
  exact aa
def EJ (w:w_) (Me:Int) (da:List aB) (k:Nat) (wr:w_):Prop:=
 ∃ l:List (aB × Nat),l.map (·.1)=da.take k/\eS cG (fun x:aB=>x.id) 131 110 w wr Me l/\aw (fun x:aB=>x.id) (fun x:aB=>ey x) 0 (da.take k)=true/\(k:Int)<=max Me 0
def rZ (a:Option d_) (da:List aB) (cap:Nat) (Me:Int) (w:w_) (hl:da.length<=1048576) (h:bJ.bU w a da) (hf: ∀ x∈da,ix w x) (hw: ∀ x∈da,(Lit.int j_ x.id).wf=true):
  k_ J3 100 #[s_ a da.length cap,i_ j_ Me] w fun e w'=>jN cG (fun x:aB=>x.id) 131 w Me (aw (fun x:aB=>x.id) (fun x:aB=>ey x) 0 da && decide ((da.length:Int)<=max Me 0)) da e w':=by
 have hmk:=P4 (P:=J3) 108;have hmn:=mT;have H0:bN (eS cG (fun x:aB=>x.id) 131 110 w (((w.alloc (c_ #[i_ j_ 0,.map n_] 110)).alloc (.map #[] 0)).alloc (c_ #[i_ j_ Me,.map (o_ (w.heap.size+1))] 110)) Me []):=eS.start 110 w Me;have HL:bN (bJ.bU w a da/\(∀ x∈da,ix w x)/\ ∀ x∈da,(Lit.int j_ x.id).wf=true):=⟨h,hf,hw⟩
 clear h hf hw;generalize hTB:(aw (fun x:aB=>x.id) (fun x:aB=>ey x) 0 da && decide ((da.length:Int)<=max Me 0))=anL;have HTB:bN (_=anL):=hTB;clear hTB
 go_enter func100,ntmps100
 go_wp2_with fail;have alN:= @j4;have anw:= @iw;have anz:= @rC;have bA:= @kF;have anG: ∀ (x:aB) (W:w_) (g:Nat),W.heap[g]? =o_ (c_ (cG x) 131)->bN (W.heap[g]? =o_ (c_ (cG x) 131)):=fun _ _ _ h=>h
 have anQ:=results100
 go_loopw [7,15] (fun last i wr=> ∃ k:Nat,k<=da.length/\i=i_ j_ k/\last=i_ j_ (bW (·.id) 0 (da.take k))/\bN (EJ w Me da k wr)) (fun _ i _=>da.length - (intOf i).toNat)
 case atStart=>exact ⟨0,Ky _,rfl,rfl,⟨[],by simp,H0.I,rfl,by simp; omega⟩⟩
 case round=>
  exact aa
def EX (w:w_) (Me:Int) (da:List az) (k:Nat) (wr:w_):Prop:=
 ∃ l:List (az × Nat),l.map (·.1)=da.take k/\eS cI (fun x:az=>x.id) 134 113 w wr Me l/\aw (fun x:az=>x.id) (fun x:az=>cU x) 0 (da.take k)=true/\(k:Int)<=max Me 0
def si (a:Option d_) (da:List az) (cap:Nat) (Me:Int) (w:w_) (hl:da.length<=1048576) (h:bG.bU w a da) (hf: ∀ x∈da,gX w x) (hw: ∀ x∈da,(Lit.int j_ x.id).wf=true):
  k_ J3 101 #[s_ a da.length cap,i_ j_ Me] w fun e w'=>jN cI (fun x:az=>x.id) 134 w Me (aw (fun x:az=>x.id) (fun x:az=>cU x) 0 da && decide ((da.length:Int)<=max Me 0)) da e w':=by
 have hmk:=P4 (P:=J3) 111;have hmn:=nr;have H0:bN (eS cI (fun x:az=>x.id) 134 113 w (((w.alloc (c_ #[i_ j_ 0,.map n_] 113)).alloc (.map #[] 0)).alloc (c_ #[i_ j_ Me,.map (o_ (w.heap.size+1))] 113)) Me []):=eS.start 113 w Me;have HL:bN (bG.bU w a da/\(∀ x∈da,gX w x)/\ ∀ x∈da,(Lit.int j_ x.id).wf=true):=⟨h,hf,hw⟩
 clear h hf hw;generalize hTB:(aw (fun x:az=>x.id) (fun x:az=>cU x) 0 da && decide ((da.length:Int)<=max Me 0))=anL;have HTB:bN (_=anL):=hTB;clear hTB
 go_enter func101,ntmps101
 go_wp2_with fail;have alN:= @jr;have anw:= @iq;have anz:= @rr;have bA:= @kJ;have anG: ∀ (x:az) (W:w_) (g:Nat),W.heap[g]? =o_ (c_ (cI x) 134)->bN (W.heap[g]? =o_ (c_ (cI x) 134)):=fun _ _ _ h=>h
 have anQ:=results101
 go_loopw [7,15] (fun last i wr=> ∃ k:Nat,k<=da.length/\i=i_ j_ k/\last=i_ j_ (bW (·.id) 0 (da.take k))/\bN (EX w Me da k wr)) (fun _ i _=>da.length - (intOf i).toNat)
 case atStart=>exact ⟨0,Ky _,rfl,rfl,⟨[],by simp,H0.I,rfl,by simp; omega⟩⟩
 case round=>
  exact aa
def IW (w:w_) (Me:Int) (da:List bD) (k:Nat) (wr:w_):Prop:=
 ∃ l:List (bD × Nat),l.map (·.1)=da.take k/\eS eH (fun x:bD=>x.id) 128 107 w wr Me l/\aw (fun x:bD=>x.id) (fun x:bD=>gw x) 0 (da.take k)=true/\(k:Int)<=max Me 0
def vV (a:Option d_) (da:List bD) (cap:Nat) (Me:Int) (w:w_) (hl:da.length<=1048576) (h:dm.bU w a da) (hf: ∀ x∈da,kU w x) (hw: ∀ x∈da,(Lit.int j_ x.id).wf=true):
  k_ J3 99 #[s_ a da.length cap,i_ j_ Me] w fun e w'=>jN eH (fun x:bD=>x.id) 128 w Me (aw (fun x:bD=>x.id) (fun x:bD=>gw x) 0 da && decide ((da.length:Int)<=max Me 0)) da e w':=by
 have hmk:=P4 (P:=J3) 105;have hmn:=pb;have H0:bN (eS eH (fun x:bD=>x.id) 128 107 w (((w.alloc (c_ #[i_ j_ 0,.map n_] 107)).alloc (.map #[] 0)).alloc (c_ #[i_ j_ Me,.map (o_ (w.heap.size+1))] 107)) Me []):=eS.start 107 w Me;have HL:bN (dm.bU w a da/\(∀ x∈da,kU w x)/\ ∀ x∈da,(Lit.int j_ x.id).wf=true):=⟨h,hf,hw⟩
 clear h hf hw;generalize hTB:(aw (fun x:bD=>x.id) (fun x:bD=>gw x) 0 da && decide ((da.length:Int)<=max Me 0))=anL;have HTB:bN (_=anL):=hTB;clear hTB
 go_enter func99,ntmps99
 go_wp2_with fail;have alN:= @lQ;have anw:= @jv;have anz:= @tU;have bA:= @gm;have anG: ∀ (x:bD) (W:w_) (g:Nat),W.heap[g]? =o_ (c_ (eH x) 128)->bN (W.heap[g]? =o_ (c_ (eH x) 128)):=fun _ _ _ h=>h
 have anQ:=results99
 go_loopw [7,15] (fun last i wr=> ∃ k:Nat,k<=da.length/\i=i_ j_ k/\last=i_ j_ (bW (·.id) 0 (da.take k))/\bN (IW w Me da k wr)) (fun _ i _=>da.length - (intOf i).toNat)
 case atStart=>exact ⟨0,Ky _,rfl,rfl,⟨[],by simp,H0.I,rfl,by simp; omega⟩⟩
 case round=>
  exact aa
end
end Go.Proofs.YtckenjkcmajicaaGreat
