/- What the proof leans on, part 24. -/
import Derived.Test.YtfncpmaefninjaaGreatDoorOwnT19
import Derived.LaidEql
set_option linter.all false
set_option maxRecDepth 100000
set_option maxHeartbeats 8000000
open Go.Proofs.Tryz
open Go renaming World->w_,Value->v_,Calls->k_,Addr->d_,TypeId->T_
open Go.Ending renaming returned->r_
open Go.IntKind renaming i64->j_
open Go.Obj renaming cells->c_
open Go.RowKit renaming Below->B_,Hid->bE
open Go.Value renaming int->i_,bool->b_,string->t_,agg->a_,pointer->p_
open Option renaming some->o_,none->n_
open Go renaming wp_at_succ->Kd,wp_at_zero->Kc
open Go.Proofs.Tryz renaming prog->J3

open Go.RowKit
namespace Go.Proofs.YtfncpmaefninjaaGreatDoor
open Go.Maps
attribute [local go_sem ↓] Kc Kd
variable {w:w_} {bj o d g H fn b:Nat} {E:d_ × d_ × d_} {S:aZ} {x:ao} {op:dN} {bA m n:Int}
abbrev agn (fn d:Nat):v_:= .func (.func fn) #[p_ (o_ ⟨d,0,n_⟩)] #[]
abbrev ahD (H:Nat):Array v_:= #[p_ (o_ ⟨H,0,n_⟩),p_ (o_ ⟨H+1,0,n_⟩),p_ (o_ ⟨H+1+1,0,n_⟩)]
structure ag1 (w:w_) (H b:Nat) (n:Int) (v:v_):Prop where
 sh:w.cell? ⟨H,1,n_⟩=o_ (.map (o_ b))
 id:w.cell? ⟨H+1,0,n_⟩=o_ (i_ j_ n)
 fn:w.cell? ⟨H+1+1,0,n_⟩=o_ v
abbrev wbW (w:w_) (m n:Int) (b:Nat) (v:v_) (t1 t2 t3:T_):w_:=((w.alloc (c_ #[i_ j_ m,.map (o_ b)] t1)).alloc (c_ #[i_ j_ n] t2)).alloc (c_ #[v] t3)
def agm (w:w_) (m n:Int) (b:Nat) (v:v_) (t1 t2 t3:T_):ag1 (wbW w m n b v t1 t2 t3) w.heap.size b n v/\B_ w.heap.size w (wbW w m n b v t1 t2 t3):=by
 refine ⟨⟨?_,?_,?_⟩,(((Kp _ _).alloc (Ki _) _).alloc zw _).alloc ZcF _⟩
 .rw [World.cell?_alloc_lt _ _ _ ZcF,World.cell?_alloc_lt _ _ _ zw,World.cell?_alloc_at _ _ _ _ zw]
  rfl
 .rw [World.cell?_alloc_lt _ _ _ zw,World.cell?_alloc_at _ _ _ _ zw]
  rfl
 .rw [World.cell?_alloc_at _ _ _ _ zw]
  rfl
def ahV:k_ J3 146 #[a_ #[i_ j_ m,.map (o_ b)],i_ j_ n,agn fn d] w fun e w'=>e=r_ (.func (.func 183) #[] (ahD w.heap.size))/\w'=wbW w m n b (agn fn d) 72 2 215:=by
 go_enter func146,ntmps146
 go_wp2;go_ret;exact ⟨rfl,rfl⟩
def ahF {f:bD->aE × Int} (J:Job w bj o d g E S x op bA) (hB:ag1 w H S.q.bs op.2.1 (agn fn d)) (hk: ¬ op.1=17) (hF: ∀ args W,(callFunc fn args).run J3 W= .ok (.enter fn args) W) (hX: ∀ s c,(s,c)∈S.ls->s.id=op.2.1->k_ J3 fn #[p_ (o_ ⟨d,0,n_⟩),p_ (o_ ⟨c,0,n_⟩)] w fun e w'=>agf E o bj g S (f s) w e w'):
  k_ J3 183 (ahD H) w fun e w'=>agf E o bj g S (agh S.pure (cg (·.id) op.2.1 S.pure.aj) f) w e w':=by
 obtain ⟨c1,c2,c3⟩:=hB;have gn:=J.er.non;have hlk:=J.dg.at'.aj.map.look underlying70 ZcE (xX (bz.2 ((dv J.ok).2.1 hk))) true;have HJ:=aA J;rcases agQ (l:=S.ls) (num:=fun x:bD=>x.id) (f:=fun x:bD=>x) (nb:=fun y:bD=>y.id) (fun _=>rfl) op.2.1 with ⟨h1,h2⟩ | ⟨s,c,h3,h4,h1,h2⟩
 .have h2:cg (·.id) op.2.1 S.pure.aj=n_:=h2
  rw [h1] at hlk;rw [h2];clear h1 h2 hX J hF;simp only [agh]
  go_enter func183,ntmps183
  exact Zaa
 .have h2:cg (·.id) op.2.1 S.pure.aj=o_ s:=h2
  rw [h1] at hlk;rw [h2];simp only [qz,dt] at hlk;have HX:=aA (hX s c h3 h4);clear h1 h2 h3 h4 hX J gn;simp only [agh]
  go_enter func183,ntmps183
  exact ro
def ag3:k_ J3 149 #[a_ #[i_ j_ m,.map (o_ b)],i_ j_ n,agn fn d] w fun e w'=>e=r_ (.func (.func 185) #[] (ahD w.heap.size))/\w'=wbW w m n b (agn fn d) 75 2 217:=by
 go_enter func149,ntmps149
 go_wp2;go_ret;exact ⟨rfl,rfl⟩
def agY {f:aB->aE × Int} (J:Job w bj o d g E S x op bA) (hB:ag1 w H S.q.be op.2.1 (agn fn d)) (hk: ¬ op.1=17) (hF: ∀ args W,(callFunc fn args).run J3 W= .ok (.enter fn args) W) (hX: ∀ s c,(s,c)∈S.le->s.id=op.2.1->k_ J3 fn #[p_ (o_ ⟨d,0,n_⟩),p_ (o_ ⟨c,0,n_⟩)] w fun e w'=>agf E o bj g S (f s) w e w'):
  k_ J3 185 (ahD H) w fun e w'=>agf E o bj g S (agh S.pure (cg (·.id) op.2.1 S.pure.L9) f) w e w':=by
 obtain ⟨c1,c2,c3⟩:=hB;have gn:=J.er.non;have hlk:=J.dg.at'.L9.map.look underlying73 ZcE (xX (bz.2 ((dv J.ok).2.1 hk))) true;have HJ:=aA J;rcases agQ (l:=S.le) (num:=fun x:aB=>x.id) (f:=fun x:aB=>x) (nb:=fun y:aB=>y.id) (fun _=>rfl) op.2.1 with ⟨h1,h2⟩ | ⟨s,c,h3,h4,h1,h2⟩
 .have h2:cg (·.id) op.2.1 S.pure.L9=n_:=h2
  rw [h1] at hlk;rw [h2];clear h1 h2 hX J hF;simp only [agh]
  go_enter func185,ntmps185
  exact Zaa
 .have h2:cg (·.id) op.2.1 S.pure.L9=o_ s:=h2
  rw [h1] at hlk;rw [h2];simp only [qz,dt] at hlk;have HX:=aA (hX s c h3 h4);clear h1 h2 h3 h4 hX J gn;simp only [agh]
  go_enter func185,ntmps185
  exact ro
def ag2:k_ J3 156 #[a_ #[i_ j_ m,.map (o_ b)],i_ j_ n,agn fn d] w fun e w'=>e=r_ (.func (.func 191) #[] (ahD w.heap.size))/\w'=wbW w m n b (agn fn d) 78 2 221:=by
 go_enter func156,ntmps156
 go_wp2;go_ret;exact ⟨rfl,rfl⟩
def agX {f:az->aE × Int} (J:Job w bj o d g E S x op bA) (hB:ag1 w H S.q.bb op.2.1 (agn fn d)) (hk: ¬ op.1=17) (hF: ∀ args W,(callFunc fn args).run J3 W= .ok (.enter fn args) W) (hX: ∀ s c,(s,c)∈S.lb->s.id=op.2.1->k_ J3 fn #[p_ (o_ ⟨d,0,n_⟩),p_ (o_ ⟨c,0,n_⟩)] w fun e w'=>agf E o bj g S (f s) w e w'):
  k_ J3 191 (ahD H) w fun e w'=>agf E o bj g S (agh S.pure (cg (·.id) op.2.1 S.pure.ag) f) w e w':=by
 obtain ⟨c1,c2,c3⟩:=hB;have gn:=J.er.non;have hlk:=J.dg.at'.ag.map.look underlying76 ZcE (xX (bz.2 ((dv J.ok).2.1 hk))) true;have HJ:=aA J;rcases agQ (l:=S.lb) (num:=fun x:az=>x.id) (f:=fun x:az=>x) (nb:=fun y:az=>y.id) (fun _=>rfl) op.2.1 with ⟨h1,h2⟩ | ⟨s,c,h3,h4,h1,h2⟩
 .have h2:cg (·.id) op.2.1 S.pure.ag=n_:=h2
  rw [h1] at hlk;rw [h2];clear h1 h2 hX J hF;simp only [agh]
  go_enter func191,ntmps191
  exact Zaa
 .have h2:cg (·.id) op.2.1 S.pure.ag=o_ s:=h2
  rw [h1] at hlk;rw [h2];simp only [qz,dt] at hlk;have HX:=aA (hX s c h3 h4);clear h1 h2 h3 h4 hX J gn;simp only [agh]
  go_enter func191,ntmps191
  exact ro
def ahj:k_ J3 153 #[a_ #[i_ j_ m,.map (o_ b)],i_ j_ n,agn fn d] w fun e w'=>e=r_ (.func (.func 186) #[] (ahD w.heap.size))/\w'=wbW w m n b (agn fn d) 81 2 219:=by
 go_enter func153,ntmps153
 go_wp2;go_ret;exact ⟨rfl,rfl⟩
def ahb {f:ci->aE × Int} (J:Job w bj o d g E S x op bA) (hB:ag1 w H S.q.bf op.2.1 (agn fn d)) (hk: ¬ op.1=17) (hF: ∀ args W,(callFunc fn args).run J3 W= .ok (.enter fn args) W) (hX: ∀ s c,(s,c)∈S.lf->s.id=op.2.1->k_ J3 fn #[p_ (o_ ⟨d,0,n_⟩),p_ (o_ ⟨c,0,n_⟩)] w fun e w'=>agf E o bj g S (f s.toci) w e w'):
  k_ J3 186 (ahD H) w fun e w'=>agf E o bj g S (agh S.pure (cg (·.id) op.2.1 S.pure.ae) f) w e w':=by
 obtain ⟨c1,c2,c3⟩:=hB;have gn:=J.er.non;have hlk:=J.dg.at'.ae.map.look underlying79 ZcE (xX (bz.2 ((dv J.ok).2.1 hk))) true;have HJ:=aA J;rcases agQ (l:=S.lf) (num:=fun x:au=>x.id) (f:=fun x:au=>x.toci) (nb:=fun y:ci=>y.id) (fun _=>rfl) op.2.1 with ⟨h1,h2⟩ | ⟨s,c,h3,h4,h1,h2⟩
 .have h2:cg (·.id) op.2.1 S.pure.ae=n_:=h2
  rw [h1] at hlk;rw [h2];clear h1 h2 hX J hF;simp only [agh]
  go_enter func186,ntmps186
  exact Zaa
 .have h2:cg (·.id) op.2.1 S.pure.ae=o_ s.toci:=h2
  rw [h1] at hlk;rw [h2];simp only [qz,dt] at hlk;have HX:=aA (hX s c h3 h4);clear h1 h2 h3 h4 hX J gn;simp only [agh]
  go_enter func186,ntmps186
  exact ro
def ahy:k_ J3 160 #[a_ #[i_ j_ m,.map (o_ b)],i_ j_ n,agn fn d] w fun e w'=>e=r_ (.func (.func 192) #[] (ahD w.heap.size))/\w'=wbW w m n b (agn fn d) 84 2 223:=by
 go_enter func160,ntmps160
 go_wp2;go_ret;exact ⟨rfl,rfl⟩
def ahn {f:dS->aE × Int} (J:Job w bj o d g E S x op bA) (hB:ag1 w H S.q.bq op.2.1 (agn fn d)) (hk: ¬ op.1=17) (hF: ∀ args W,(callFunc fn args).run J3 W= .ok (.enter fn args) W) (hX: ∀ s c,(s,c)∈S.lq->s.id=op.2.1->k_ J3 fn #[p_ (o_ ⟨d,0,n_⟩),p_ (o_ ⟨c,0,n_⟩)] w fun e w'=>agf E o bj g S (f s.todS) w e w'):
  k_ J3 192 (ahD H) w fun e w'=>agf E o bj g S (agh S.pure (cg (·.id) op.2.1 S.pure.ai) f) w e w':=by
 obtain ⟨c1,c2,c3⟩:=hB;have gn:=J.er.non;have hlk:=J.dg.at'.ai.map.look underlying82 ZcE (xX (bz.2 ((dv J.ok).2.1 hk))) true;have HJ:=aA J;rcases agQ (l:=S.lq) (num:=fun x:aM=>x.id) (f:=fun x:aM=>x.todS) (nb:=fun y:dS=>y.id) (fun _=>rfl) op.2.1 with ⟨h1,h2⟩ | ⟨s,c,h3,h4,h1,h2⟩
 .have h2:cg (·.id) op.2.1 S.pure.ai=n_:=h2
  rw [h1] at hlk;rw [h2];clear h1 h2 hX J hF;simp only [agh]
  go_enter func192,ntmps192
  exact Zaa
 .have h2:cg (·.id) op.2.1 S.pure.ai=o_ s.todS:=h2
  rw [h1] at hlk;rw [h2];simp only [qz,dt] at hlk;have HX:=aA (hX s c h3 h4);clear h1 h2 h3 h4 hX J gn;simp only [agh]
  go_enter func192,ntmps192
  exact ro
def ahE:k_ J3 163 #[a_ #[i_ j_ m,.map (o_ b)],i_ j_ n,agn fn d] w fun e w'=>e=r_ (.func (.func 193) #[] (ahD w.heap.size))/\w'=wbW w m n b (agn fn d) 69 2 225:=by
 go_enter func163,ntmps163
 go_wp2;go_ret;exact ⟨rfl,rfl⟩
def ahm {f:aD->aE × Int} (J:Job w bj o d g E S x op bA) (hB:ag1 w H S.q.bp op.2.1 (agn fn d)) (hk: ¬ op.1=17) (hF: ∀ args W,(callFunc fn args).run J3 W= .ok (.enter fn args) W) (hX: ∀ s c,(s,c)∈S.lp->s.id=op.2.1->k_ J3 fn #[p_ (o_ ⟨d,0,n_⟩),p_ (o_ ⟨c,0,n_⟩)] w fun e w'=>agf E o bj g S (f s.toaD) w e w'):
  k_ J3 193 (ahD H) w fun e w'=>agf E o bj g S (agh S.pure (cg (·.id) op.2.1 S.pure.L8) f) w e w':=by
 obtain ⟨c1,c2,c3⟩:=hB;have gn:=J.er.non;have hlk:=J.dg.at'.L8.map.look underlying67 ZcE (xX (bz.2 ((dv J.ok).2.1 hk))) true;have HJ:=aA J;rcases agQ (l:=S.lp) (num:=fun x:ao=>x.id) (f:=fun x:ao=>x.toaD) (nb:=fun y:aD=>y.id) (fun _=>rfl) op.2.1 with ⟨h1,h2⟩ | ⟨s,c,h3,h4,h1,h2⟩
 .have h2:cg (·.id) op.2.1 S.pure.L8=n_:=h2
  rw [h1] at hlk;rw [h2];clear h1 h2 hX J hF;simp only [agh]
  go_enter func193,ntmps193
  exact Zaa
 .have h2:cg (·.id) op.2.1 S.pure.L8=o_ s.toaD:=h2
  rw [h1] at hlk;rw [h2];simp only [qz,dt] at hlk;have HX:=aA (hX s c h3 h4);clear h1 h2 h3 h4 hX J gn;simp only [agh]
  go_enter func193,ntmps193
  exact ro
end Go.Proofs.YtfncpmaefninjaaGreatDoor

namespace Go.Proofs.YtfncpmaefninjaaGreatDoor
open Go.Maps
attribute [local go_sem ↓] Kc Kd
variable {w:w_} {bj o d g:Nat} {E:d_ × d_ × d_} {S:aZ} {x:ao} {op:dN} {bA:Int}
def akx (y:ao):ao:=⟨{ y.toaD with pc:=0 },y.aY,y.bH⟩
def ajX (J:Job w bj o d g E S x op bA):
  k_ J3 166 #[p_ (o_ ⟨d,0,n_⟩)] w fun e w'=>agf E o bj g S (aj6 x.toaD S.pure) w e w':=by
 obtain ⟨-,c1,-⟩:=agb J.dg.box;have c4:=(bo J.box).2.2.2.2.1;have f4:w.frozen? ⟨g,4,n_⟩=false:=Ko _ _ _ _ _ J.box;have HF:=aA (J.ju (f:=akx) (f':=fun y=> { y with pc:=0 }) (nx:=S.q.next) (w1:=w.setCell ⟨g,4,n_⟩ (i_ j_ 0)) (fun _=>rfl) (fun _=>⟨rfl,rfl⟩) (cx (i:=4) (v:=i_ j_ 0) J.box) ((aH J.ae9).trans J.dg.at'.opn) (aI.cell.mono zw));have gp:=(J.er.below (HF.I.1.cd J.dg.at' J.dg.low)).past;have HX:=aA J.hx;unfold aj6;clear J
 go_enter func166,ntmps166
 go_wp2;go_ret;exact ⟨S.ju g akx S.q.next,rfl,HF.I.1,HF.I.2,.inl ⟨rfl,agG HX.I⟩⟩
def ajp {e0:aB} {c:Nat} (J:Job w bj o d g E S x op bA) (hs:(e0,c)∈S.le) (hid:e0.id=op.2.1):
  k_ J3 151 #[p_ (o_ ⟨d,0,n_⟩),p_ (o_ ⟨c,0,n_⟩)] w fun e w'=>agf E o bj g S (aiJ op.2.1 S.pure e0) w e w':=by
 have hb:=J.dg.at'.L9.box _ hs;have c1:=(kF hb).2;have f1:w.frozen? ⟨c,1,n_⟩=false:=Ko _ _ _ _ _ hb;have HE:=aA (o4.event (x':= { e0 with up:=false }) (fun y=> { y with up:=false }) J.dg.at' hs (cx (i:=1) (v:=b_ false) hb) rfl rfl aI.cell);rw [hid] at HE;unfold aiJ;clear hb J
 go_enter func151,ntmps151
 exact ZaO
def ajv {e0:aB} {c:Nat} (J:Job w bj o d g E S x op bA) (hs:(e0,c)∈S.le):
  k_ J3 152 #[p_ (o_ ⟨d,0,n_⟩),p_ (o_ ⟨c,0,n_⟩)] w fun e w'=>agf E o bj g S (ahQ S.pure e0) w e w':=by
 have c1:=(kF (J.dg.at'.L9.box _ hs)).2;have HJ:=aA J;unfold ahQ;clear J hs
 revert c1
 cases e0.up with
 | true=>
  intro c1
  go_enter func152,ntmps152
  go_wp2;go_ret;exact agf.same (c:=0) HJ.I (Kp _ _)
 | false=>
  intro c1
  go_enter func152,ntmps152
  go_wp2;go_ret;exact agf.same (c:=14) HJ.I (Kp _ _)
def ai1 {s:bD} {c:Nat} (J:Job w bj o d g E S x op bA) (hs:(s,c)∈S.ls) (hid:s.id=op.2.1):
  k_ J3 148 #[p_ (o_ ⟨d,0,n_⟩),p_ (o_ ⟨c,0,n_⟩)] w fun e w'=>agf E o bj g S (agx op.2.1 S.pure s) w e w':=by
 have HJ:bE (Job w bj o d g E S x op bA/\(s,c)∈S.ls):=⟨J,hs⟩
 clear J hs
 go_enter func148,ntmps148
 go_wp2_with fail;refine (ahv o d g bj S op bA 3 w HJ.I.1.dg (HJ.I.1.wk 3)).mono ?_;rintro e w2 (⟨b1,rfl,hb2⟩ | ⟨y,S',b1,rfl,hm,hp,hkp⟩)
 .have HB:=aA hb2
  have hb:=(HJ.I.1.below hb2).dg.at'.aj.box _ HJ.I.2;have c1:w2.cell? ⟨c,1,n_⟩=o_ (i_ j_ s.n):=by simp [World.cell?,hb,eH]
  have c2:w2.cell? ⟨c,2,n_⟩=o_ (i_ j_ s.max):=by simp [World.cell?,hb,eH]
  have f1:w2.frozen? ⟨c,1,n_⟩=false:=Ko _ _ _ _ _ hb;have gn:=(HJ.I.1.below hb2).er.not;have hsr:=(cK HJ.I.1.right.aj s (Lr.2 ⟨_,HJ.I.2,rfl⟩)).2;simp only [gw,J7] at hsr;obtain ⟨m0,m1⟩:=bz.1 hsr.1;obtain ⟨n0,n1⟩:=bz.1 hsr.2;have HE:=aA (o4.sem (w1:=w2.drew.setCell ⟨c,1,n_⟩ (i_ j_ (s.n+1))) (x':= { s with n:=s.n+1 }) (fun y=> { y with n:=y.n+1 }) (HJ.I.1.below hb2).dg.at' HJ.I.2 (cx (i:=1) (v:=i_ j_ (s.n+1)) hb) rfl rfl ((aI.dI (Kp _ _).drew).trans aI.cell));rw [hid] at HE;have H1:=aA b1;clear hb hsr hb2 b1;by_cases h0:s.n=s.max
  .have e0:(s.n == s.max)=true:=by simp [h0]
   have H0:=aA h0;clear h0;go_wp2_with fail;refine aT (fun w'=>w'=w2.drew) ZcE rfl ?_
   iterate 9 (refine agj ?_)
   refine bk ZcE ?_ _;intro w1 cm;subst cm;go_wp2;go_ret;rw [show agx op.2.1 S.pure s=(S.pure,1) by unfold agx; rw [H1.I]; simp only [if_pos H0.I]];exact agf.same (c:=1) HJ.I.1 HB.I.drew
  .have e0:(s.n == s.max)=false:=by simp [h0]
   have H0:=aA h0;go_wp2_with fail;refine aT (fun w'=>w'=w2.drew) ZcE rfl ?_
   iterate 9 (refine agj ?_)
   refine bk ZcE ?_ _;intro w1 cm;subst cm;go_wp2;go_ret;rw [show agx op.2.1 S.pure s=(nZ op.2.1 1 S.pure,0) by unfold agx; rw [H1.I]; simp only [if_neg H0.I]];obtain ⟨S',h5,h6,h7,-⟩:=HE.I;exact ⟨S',rfl,(o4.below HJ.I.1.dg.at' HB.I).trans h5,h6,.inr (afU.of h7)⟩
 .have HB:bE (o4 o bj S w S' w2/\S'.pure=gF (fun y=>y) S.pure y/\afU g S S'):=⟨hm,hp,hkp⟩
  have H1:=aA b1;clear hm hp hkp b1;go_wp2;go_ret;rw [show agx op.2.1 S.pure s=(gF (fun y=>y) S.pure y,0) by unfold agx; rw [H1.I]];exact ⟨S',rfl,HB.I.1,HB.I.2.1,.inr HB.I.2.2⟩
def eqProc {a b:Nat} {w:w_} {x y:ao} (hx:w.heap[a]? =o_ (c_ (aX x) 41)) (hy:w.heap[b]? =o_ (c_ (aX y) 41)):Sem.run J3 (binOp BinOp.eql 64 (p_ (o_ ⟨a,0,n_⟩)) (p_ (o_ ⟨b,0,n_⟩))) w= .ok (b_ (decide (a=b))) w:=by
 simp only [binOp,go_sem];unfold Op.equal Op.maxDepth;unfold Op.equalIn;simp [go_sem];by_cases h:a=b
 .subst h
  rw [run_sameAddr_same];simp
 .rw [run_sameAddr_other w (a:=⟨a,0,n_⟩) (b:=⟨b,0,n_⟩) zw hx hy]
  simp [h]
def aix (y:ao):ao:=⟨j7 y.toaD,y.aY,y.bH⟩
def aj4 {y:ao} {c:Nat} (J:Job w bj o d g E S x op bA) (hs:(y,c)∈S.lp) (hid:y.id=op.2.1):
  k_ J3 165 #[p_ (o_ ⟨d,0,n_⟩),p_ (o_ ⟨c,0,n_⟩)] w fun e w'=>agf E o bj g S (aiy op.2.1 x.id S.pure y.toaD) w e w':=by
 have hb:=J.dg.at'.L8.box _ hs;have c3:=(bo hb).2.2.2.1;have gn:=J.er.not;have HJ:bE (Job w bj o d g E S x op bA/\(y,c)∈S.lp):=⟨J,hs⟩
 have Mb:=NI c y w hb;unfold aiy;by_cases h0:y.Md=0
 .have e0:(y.Md == 0)=true:=by simp [h0]
  rw [if_pos (show y.toaD.Md=0 from h0)];clear h0 J hs hb Mb
  go_enter func165,ntmps165
  go_wp2;go_ret;exact agf.same (c:=1) HJ.I.1 (Kp _ _)
 .have e0:(y.Md == 0)=false:=by simp [h0]
  rw [if_neg (show ¬ y.toaD.Md=0 from h0)];clear h0 J hs hb
  go_enter func165,ntmps165
  go_wp2_with fail;refine Mb.mono ?_;clear Mb c3 e0 gn;rintro e w2 ⟨rfl,hw⟩;have HF:bE (o4 o bj S w (S.ju c aix S.q.next) w2/\(S.ju c aix S.q.next).pure=ot op.2.1 S.pure):=by
   have ha:=HJ.I.1.dg.at'.apart (aZ.ago (LB _ (Lr.2 ⟨_,HJ.I.2,rfl⟩)));rw [hw];refine ⟨o4.ju HJ.I.1.dg.at' (fun _=>⟨rfl,rfl,rfl,rfl⟩) HJ.I.2 (KU _ _ _ _ _ _ (HJ.I.1.dg.at'.L8.box _ HJ.I.2)) ((KH _ _ _ _ ha.1).trans HJ.I.1.dg.at'.opn) (aI.row.mono zw),?_⟩;rw [<- hid];exact aZ.Sb (nx:=S.q.next) (f:=aix) (f':=j7) (agv HJ.I.1.right) (fun p hp hpg=>HJ.I.1.dg.at'.L8.one hp HJ.I.2 hpg) HJ.I.2 (fun _=>rfl)
  have c1:=(agb (HJ.I.1.dg.move HF.I.1).box).2.1;have gp:=(HJ.I.1.er.below (HF.I.1.cd HJ.I.1.dg.at' HJ.I.1.dg.low)).past;have hpc:=HF.I.1.at'.L8.box (aix y,c) (yy.2 ⟨(y,c),HJ.I.2,by simp⟩);obtain ⟨z,hz⟩: ∃ z:ao,w2.heap[g]? =o_ (c_ (aX z) 41):=by
   have h5:g∈(S.ju c aix S.q.next).lp.map (·.2):=by
    show g∈(sU c aix S.lp).map (·.2)
    rw [qb];exact Lr.2 ⟨_,HJ.I.1.hx,rfl⟩
   obtain ⟨r,hr,e5⟩:=Lr.1 h5;exact ⟨r.1,by rw [<- e5]; exact HF.I.1.at'.L8.box r hr⟩
  have e1:=eqProc hpc hz;clear hw hpc hz;by_cases hcg:c=g
  .rw [decide_eq_true hcg] at e1
   have hyx:op.2.1=x.id:=by rw [<- hid,show y=x from congrArg Prod.fst (HJ.I.1.dg.at'.L8.one HJ.I.2 HJ.I.1.hx hcg)]
   subst hcg;have HY:=aA hyx;clear hyx;go_wp2;go_ret;exact ⟨_,rfl,HF.I.1,(by rw [<- HY.I]; exact HF.I.2),.inl ⟨rfl,agG HJ.I.2⟩⟩
  .rw [decide_eq_false hcg] at e1
   have hyx: ¬ op.2.1=x.id:=fun e=>hcg (congrArg Prod.snd (HJ.I.1.dg.at'.L8.onk HJ.I.2 HJ.I.1.hx (by rw [hid,e])))
   have HN:=aA hcg;exact ZbZ
def ajb {y:ao} {c:Nat} (J:Job w bj o d g E S x op bA) (hs:(y,c)∈S.lp) (hid:y.id=op.2.1):
  k_ J3 164 #[p_ (o_ ⟨d,0,n_⟩),p_ (o_ ⟨c,0,n_⟩)] w fun e w'=>agf E o bj g S (ahH op.2.1 S.pure y.toaD) w e w':=by
 have hb:=J.dg.at'.L8.box _ hs;have c3:=(bo hb).2.2.2.1;have c0:=(agb J.dg.box).1;have gn:=J.er.not;have HJ:bE (Job w bj o d g E S x op bA/\(y,c)∈S.lp):=⟨J,hs⟩
 have Mb:=ajh o c bj S y w J.dg.at' hs J.nx.1 J.nx.2;unfold ahH;by_cases h0:y.Md=0
 .have e0:(y.Md != 0)=false:=by simp [h0]
  rw [if_pos (show y.toaD.Md=0 from h0)];have HN:bE (¬ c=g):=fun e=>by
   have h5:=J.up;rw [<- show y=x from congrArg Prod.fst (J.dg.at'.L8.one hs J.hx e)] at h5;omega
  clear h0 J hs hb
  go_enter func164,ntmps164
  go_wp2_with fail;refine Mb.mono ?_;clear Mb c3 e0 gn c0;rintro e w2 ⟨rfl,hat,hkp⟩;have HF:bE (o4 o bj S w (S.ju c (F2 S.q.next) (S.q.next+1)) w2/\(S.ju c (F2 S.q.next) (S.q.next+1)).pure=py op.2.1 S.pure):=by
   refine ⟨⟨hat,hkp.mono fun b hb=> ?_,fun b hb _=> ?_⟩,?_⟩
   .simp only [Kt,Ku,or_false] at hb
    rcases hb with rfl | rfl
    .exact aZ.agr (aZ.ago (LB _ (Lr.2 ⟨_,HJ.I.2,rfl⟩)))
    .simp [aZ.al]
   .rw [ahk (f:=F2 S.q.next) fun _=>rfl] at hb
    exact hb
   .rw [<- hid]
    exact aZ.Sb (nx:=S.q.next+1) (f:=F2 S.q.next) (f':=fun y=> { y with Md:=1,RU:=S.q.next }) (agv HJ.I.1.right) (fun p hp hpg=>HJ.I.1.dg.at'.L8.one hp HJ.I.2 hpg) HJ.I.2 (fun _=>rfl)
  clear hat hkp;exact ZbZ
 .have e0:(y.Md != 0)=true:=by simp [h0]
  rw [if_neg (show ¬ y.toaD.Md=0 from h0)];clear h0 J hs hb Mb
  go_enter func164,ntmps164
  go_wp2;go_ret;exact agf.same (c:=1) HJ.I.1 (Kp _ _)
end Go.Proofs.YtfncpmaefninjaaGreatDoor

namespace Go.Proofs.YtfncpmaefninjaaGreatDoor
open Go.Maps
attribute [local go_sem ↓] Kc Kd
structure aiC (f:aD->aD) (st on:Int) (tgt:aE) (o bj g:Nat) (afH:aZ) (w:w_) (k:Nat) (S:aZ) (wr:w_):Prop where
 mv:o4 o bj afH w S wr
 VO:afU g afH S
 right:aQ S.pure
 same:ff f st on S.pure=tgt
 cnt:(S.pure.L8.filter (ie st on)).length=k
 room:S.q.next+k<=999999997
section
variable {w w1 w2:w_} {bj o d g k:Nat} {E:d_ × d_ × d_} {S S1 S2:aZ} {x:ao} {op:dN} {bA st on:Int} {f:aD->aD} {tgt:aE} {y:aD}
def aiC.ok (h:aiC f st on tgt o bj g S w k S1 w1) (hs: ¬ st=0/\ ¬ st=1) (J:Job w bj o d g E S x op bA):aij g S1 st:=
 ⟨h.right,by have:=h.room; omega,hs,fun y hy=>by
  obtain ⟨x',hx',-,-,-,h5⟩:=h.VO x J.hx;rw [show y=x' from congrArg Prod.fst (h.mv.at'.L8.one hy hx' rfl),h5];exact J.up⟩
def aiC.step (h:aiC f st on tgt o bj g S w k S1 w1) (hs: ¬ st=0/\ ¬ st=1) (hf:f=(fun y=>y)\/ ∃ t,bw t=true/\f=lG t) (hb:jl st on S1.pure.L8=o_ y) (hm:o4 o bj S1 w1 S2 w2) (hp:S2.pure=gF f S1.pure y) (hk:afU g S1 S2):aiC f st on tgt o bj g S w (k - 1) S2 w2/\k - 1 < k:=by
 have h1:=zC (f:=f) h.right hs hb;have h2:=ft hb;have h3:=h.room;have h4:S1.pure.next=S1.q.next:=rfl;have h5:S2.pure.next=S2.q.next:=rfl;have h6:S2.pure.next=gf S1.q.next y:=by rw [hp]; rfl
 have h7:=mU S1.q.next y;have h8:=h.cnt;refine ⟨⟨h.mv.trans hm,h.VO.trans hk,?_,?_,?_,?_⟩,zo⟩
 .rw [hp]
  exact i9 h.right h2.1 (by rw [h2.2.1]; exact hs.1) hf zo
 .rw [hp,<- h1.1]
  exact h.same
 .rw [hp]
  omega
 .omega
end
variable {w:w_} {bj o d g:Nat} {E:d_ × d_ × d_} {S:aZ} {x:ao} {op:dN} {bA:Int}
def aiv {p:aE} {st on:Int} (h:aQ p):(p.L8.filter (ie st on)).length<=6:=LG (Qq _ _) h.dl
def akk {e0:aB} {c:Nat} (J:Job w bj o d g E S x op bA) (hs:(e0,c)∈S.le) (hid:e0.id=op.2.1):
  k_ J3 150 #[p_ (o_ ⟨d,0,n_⟩),p_ (o_ ⟨c,0,n_⟩)] w fun e w'=>agf E o bj g S (aks op.2.1 S.pure e0) w e w':=by
 have hb:=J.dg.at'.L9.box _ hs;have c1:=(kF hb).2;have f1:w.frozen? ⟨c,1,n_⟩=false:=Ko _ _ _ _ _ hb;obtain ⟨S',h5,h6,h7,h8⟩:=o4.event (x':= { e0 with up:=true }) (fun y=> { y with up:=true }) J.dg.at' hs (cx (i:=1) (v:=b_ true) hb) rfl rfl aI.cell;rw [hid] at h6;have hr:aQ S'.pure:=by rw [h6]; exact kw (b:=true) J.right
 obtain ⟨afL,hK0⟩: ∃ afL,afL=(S'.pure.L8.filter (ie 4 op.2.1)).length:=⟨_,rfl⟩
 have HK:bE (aiC (fun y=>y) 4 op.2.1 (ff (fun y=>y) 4 op.2.1 (gL op.2.1 true S.pure)) o bj g S w afL S' (w.setCell ⟨c,1,n_⟩ (b_ true))):=⟨h5,afU.of h7,hr,by rw [h6]; rfl,hK0.symm,by have:=J.room; have:=aiv (st:=4) (on:=op.2.1) hr; rw [h8]; omega⟩
 have HJ:=aA J;unfold aks;clear hb J h5 h6 h7 h8 hr hK0
 go_enter func150,ntmps150
 go_wp2_with fail;clear c1 f1
 go_loopg [] (afL:Nat) (fun k wr=> ∃ S1:aZ,bE (aiC (fun y=>y) 4 op.2.1 (ff (fun y=>y) 4 op.2.1 (gL op.2.1 true S.pure)) o bj g S w k S1 wr))
 case atStart=>exact ⟨_,HK.I⟩
 case round=>
  obtain ⟨S1,HO⟩:=hrel;go_wp2_with fail;refine (ahv o d g bj S1 op bA 4 wr (HJ.I.dg.move HO.I.mv) (HO.I.ok (by decide) HJ.I)).mono ?_;rintro e w2 (⟨b1,rfl,hb2⟩ | ⟨y,S2,b1,rfl,hm,hp,hkp⟩)
  .have HB:bE (B_ wr.heap.size wr w2/\S1.pure=ff (fun y=>y) 4 op.2.1 (gL op.2.1 true S.pure)):=⟨hb2,by rw [<- HO.I.same]; exact (qO b1).symm⟩
   exact ZbB
  .have HB:=aA (HO.I.step (by decide) (.inl rfl) b1 hm hp hkp)
   exact Zbz
def aP {c:Nat} {b:az} (h:w.heap[c]? =o_ (c_ (cI b) 93)):w.cell? ⟨c,1,n_⟩=o_ (b_ b.shown)/\w.cell? ⟨c,2,n_⟩=o_ (t_ b.text):=by simp [World.cell?,h,cI]
def aj1 {b:az} {c:Nat} (J:Job w bj o d g E S x op bA) (hs:(b,c)∈S.lb) (hid:b.id=op.2.1):
  k_ J3 157 #[p_ (o_ ⟨d,0,n_⟩),p_ (o_ ⟨c,0,n_⟩)] w fun e w'=>agf E o bj g S (ajf op.2.1 op.2.2.2 S.pure b) w e w':=by
 have hb:=J.dg.at'.ag.box _ hs;have c1:=(aP hb).1;have f1:w.frozen? ⟨c,1,n_⟩=false:=Ko _ _ _ _ _ hb;have hb2:(w.setCell ⟨c,1,n_⟩ (b_ true)).heap[c]? =o_ (c_ (cI { b with shown:=true }) 93):=cx (i:=1) (v:=b_ true) hb;have c2:=(aP hb2).2;have f2:(w.setCell ⟨c,1,n_⟩ (b_ true)).frozen? ⟨c,2,n_⟩=false:=Ko _ _ _ _ _ hb2;have c5:=(agb J.dg.box).2.2.2.2.2.1;obtain ⟨S',h5,h6,h7,h8⟩:=o4.ajl (x':= { b with shown:=true,text:=op.2.2.2 }) (fun y=> { y with shown:=true,text:=op.2.2.2 }) J.dg.at' hs (cx (i:=2) (v:=t_ op.2.2.2) hb2) rfl rfl (aI.cell.trans aI.cell);rw [hid] at h6;have hpl:=(dv J.ok).2.2.2.1;have hr:aQ S'.pure:=by rw [h6]; exact kA (b:=true) J.right hpl (.inl rfl)
 obtain ⟨afL,hK0⟩: ∃ afL,afL=(S'.pure.L8.filter (ie 7 op.2.1)).length:=⟨_,rfl⟩
 have HK:bE (aiC (lG op.2.2.2) 7 op.2.1 (ff (lG op.2.2.2) 7 op.2.1 (ib op.2.1 true op.2.2.2 S.pure)) o bj g S w afL S' ((w.setCell ⟨c,1,n_⟩ (b_ true)).setCell ⟨c,2,n_⟩ (t_ op.2.2.2))):=⟨h5,afU.of h7,hr,by rw [h6]; rfl,hK0.symm,by have:=J.room; have:=aiv (st:=7) (on:=op.2.1) hr; rw [h8]; omega⟩
 have HP:=aA hpl;have HJ:=aA J;unfold ajf;clear hb J h5 h6 h7 h8 hr hK0 hb2 hpl
 go_enter func157,ntmps157
 go_wp2_with fail;clear c1 f1 c2 f2 c5
 go_loopg [] (afL:Nat) (fun k wr=> ∃ S1:aZ,bE (aiC (lG op.2.2.2) 7 op.2.1 (ff (lG op.2.2.2) 7 op.2.1 (ib op.2.1 true op.2.2.2 S.pure)) o bj g S w k S1 wr))
 case atStart=>exact ⟨_,HK.I⟩
 case round=>
  obtain ⟨S1,HO⟩:=hrel;go_wp2_with fail;refine (ahA o d g bj S1 op bA 7 wr (HJ.I.dg.move HO.I.mv) (HO.I.ok (by decide) HJ.I)).mono ?_;rintro e w2 (⟨b1,rfl,hb2⟩ | ⟨y,S2,b1,rfl,hm,hp,hkp⟩)
  .have HB:bE (B_ wr.heap.size wr w2/\S1.pure=ff (lG op.2.2.2) 7 op.2.1 (ib op.2.1 true op.2.2.2 S.pure)):=⟨hb2,by rw [<- HO.I.same]; exact (qO b1).symm⟩
   exact ZbB
  .have HB:=aA (HO.I.step (by decide) (.inr ⟨_,HP.I,rfl⟩) b1 hm hp hkp)
   exact Zbz
def ajB {b:az} {c:Nat} (J:Job w bj o d g E S x op bA) (hs:(b,c)∈S.lb) (hid:b.id=op.2.1):
  k_ J3 158 #[p_ (o_ ⟨d,0,n_⟩),p_ (o_ ⟨c,0,n_⟩)] w fun e w'=>agf E o bj g S (aiG op.2.1 S.pure b) w e w':=by
 have hb:=J.dg.at'.ag.box _ hs;have c1:=(aP hb).1;have f1:w.frozen? ⟨c,1,n_⟩=false:=Ko _ _ _ _ _ hb;have hb2:(w.setCell ⟨c,1,n_⟩ (b_ false)).heap[c]? =o_ (c_ (cI { b with shown:=false }) 93):=cx (i:=1) (v:=b_ false) hb;have c2:=(aP hb2).2;have f2:(w.setCell ⟨c,1,n_⟩ (b_ false)).frozen? ⟨c,2,n_⟩=false:=Ko _ _ _ _ _ hb2;have HE:=aA (o4.ajl (x':= { b with shown:=false,text:=rM }) (fun y=> { y with shown:=false,text:=rM }) J.dg.at' hs (cx (i:=2) (v:=t_ rM) hb2) rfl rfl (aI.cell.trans aI.cell));rw [hid] at HE;unfold aiG;clear hb hb2 J
 go_enter func158,ntmps158
 exact ZaO
def ajG {b:az} {c:Nat} (J:Job w bj o d g E S x op bA) (hs:(b,c)∈S.lb):
  k_ J3 159 #[p_ (o_ ⟨d,0,n_⟩),p_ (o_ ⟨c,0,n_⟩)] w fun e w'=>agf E o bj g S (ain x.id S.pure b) w e w':=by
 have hb:=J.dg.at'.ag.box _ hs;have c2:=(aP hb).2;have c1:=(agb J.dg.box).2.1;have YU:bE (w.drew.cell? ⟨g,9,n_⟩=o_ (t_ x.got)/\w.drew.frozen? ⟨g,9,n_⟩=false):=⟨(bo J.box).2.2.2.2.2.2.2.2.2.1,Ko _ _ _ _ _ J.box⟩
 have HM:bE (o4 o bj S w (S.ju g (agF b.text) S.q.next) (w.drew.setCell ⟨g,9,n_⟩ (t_ b.text))/\(S.ju g (agF b.text) S.q.next).pure=ez b.text x.id S.pure):=by
  exact Zar
 have k1:=(aP (HM.I.1.at'.ag.box _ hs)).1;unfold ain;clear hb J hs
 revert k1
 cases b.shown with
 | true=>
  exact wl
 | false=>
  exact wl
end Go.Proofs.YtfncpmaefninjaaGreatDoor

namespace Go.Proofs.YtfncpmaefninjaaGreatDoor
open Go.Maps
attribute [local go_sem ↓] Kc Kd
variable {w:w_} {bj o d g:Nat} {E:d_ × d_ × d_} {S:aZ} {x:ao} {op:dN} {bA:Int}
def ahi (v:Int) (y:ao):ao:=⟨aiA v y.toaD,y.aY,y.bH⟩
def akl (J:Job w bj o d g E S x op bA) (hk:op.1=1):
  k_ J3 144 #[p_ (o_ ⟨d,0,n_⟩)] w fun e w'=>agf E o bj g S (runT x.toaD op S.pure) w e w':=by
 obtain ⟨-,c1,-,c3,-,-,-⟩:=agb J.dg.box;have c5:=(bo J.box).2.2.2.2.2.1;have f5:w.frozen? ⟨g,5,n_⟩=false:=Ko _ _ _ _ _ J.box;have hn:=(dv J.ok).2.1 zo;obtain ⟨n0,n1⟩:=hn;have hr:=(aia (J.right.proc (Lr.2 ⟨_,J.hx,rfl⟩)).2.1 J.up).2.2;rw [<- J.op] at hr;have hr:=hr hk;have l0:0<=x.left:=hr.1;have l1:x.left < op.2.1:=hr.2;have gp:=J.er.past;have HJ:bE (Job w bj o d g E S x op bA):=J;have H1:=fun v:v_=>cx (i:=5) (v:=v) J.box
 have HE: ∀ v:Int,∀ w1:w_,w1.heap[g]? =o_ (c_ (aX (ahi v x)) 41)->aI w w1 [g] ->bE (o4 o bj S w (S.ju g (ahi v) S.q.next) w1/\(S.ju g (ahi v) S.q.next).pure= { S.pure with L8:=ce x.id (aiA v) S.pure.L8 }):=fun v w1 h1 h2=>
  HJ.I.ju (f:=ahi v) (f':=aiA v) (nx:=S.q.next) (fun _=>rfl) (fun _=>⟨rfl,rfl⟩) h1 ((h2.same o (HJ.I.dg.at'.lt o zw) (by simpa using HJ.I.ae9)).trans HJ.I.dg.at'.opn) (h2.mono zw)
 clear hr;by_cases hl:x.left=0
 .have e0:(x.left == 0)=true:=by simp [hl]
  have c5b:(w.setCell ⟨g,5,n_⟩ (i_ j_ op.2.1)).cell? ⟨g,5,n_⟩=o_ (i_ j_ op.2.1):=(bo (x:=ahi op.2.1 x) (H1 (i_ j_ op.2.1))).2.2.2.2.2.1;have f5b:(w.setCell ⟨g,5,n_⟩ (i_ j_ op.2.1)).frozen? ⟨g,5,n_⟩=false:=Ko _ _ _ _ _ (H1 (i_ j_ op.2.1));have k2:((w.setCell ⟨g,5,n_⟩ (i_ j_ op.2.1)).setCell ⟨g,5,n_⟩ (i_ j_ (op.2.1 - 1))).heap[g]? =o_ (c_ (aX (ahi (op.2.1 - 1) x)) 41 (0,0)):=cx (i:=5) (v:=i_ j_ (op.2.1 - 1)) (H1 (i_ j_ op.2.1));have HF:=HE (op.2.1 - 1) _ k2 (aI.cell.trans aI.cell);have gpb:=(J.er.below (HF.I.1.cd J.dg.at' J.dg.low)).past;have hv:agO x.toaD op=op.2.1:=by unfold agO; rw [if_pos (show x.toaD.left=0 from hl)]
  have c5c:((w.setCell ⟨g,5,n_⟩ (i_ j_ op.2.1)).setCell ⟨g,5,n_⟩ (i_ j_ (op.2.1 - 1))).cell? ⟨g,5,n_⟩=o_ (i_ j_ (op.2.1 - 1)):=(bo k2).2.2.2.2.2.1;unfold runT;rw [hv];clear k2 hv HE H1 J gp;by_cases h1:op.2.1=1
  .rw [if_pos h1]
   have p1: ¬ 0 < op.2.1 - 1:=zo
   clear h1
   go_enter func144,ntmps144
   go_wp2;go_ret;exact ⟨S.ju g (ahi (op.2.1 - 1)) S.q.next,rfl,HF.I.1,HF.I.2,.inr (afU.ju fun _ _=>⟨rfl,rfl,rfl,rfl⟩)⟩
  .rw [if_neg h1]
   have p1:0 < op.2.1 - 1:=zo
   clear h1
   go_enter func144,ntmps144
   go_wp2;go_ret;exact ⟨S.ju g (ahi (op.2.1 - 1)) S.q.next,rfl,HF.I.1,HF.I.2,.inl ⟨rfl,agG HJ.I.hx⟩⟩
 .have e0:(x.left == 0)=false:=by simp [hl]
  have k2:(w.setCell ⟨g,5,n_⟩ (i_ j_ (x.left - 1))).heap[g]? =o_ (c_ (aX (ahi (x.left - 1) x)) 41 (0,0)):=H1 (i_ j_ (x.left - 1));have c5c:(w.setCell ⟨g,5,n_⟩ (i_ j_ (x.left - 1))).cell? ⟨g,5,n_⟩=o_ (i_ j_ (x.left - 1)):=(bo k2).2.2.2.2.2.1;have HF:=HE (x.left - 1) _ k2 aI.cell;have gpb:=(J.er.below (HF.I.1.cd J.dg.at' J.dg.low)).past;have hv:agO x.toaD op=x.left:=by unfold agO; rw [if_neg (show ¬ x.toaD.left=0 from hl)]
  unfold runT;rw [hv];clear k2 hv HE H1 J gp;by_cases h1:x.left=1
  .rw [if_pos h1]
   have p1: ¬ 0 < x.left - 1:=zo
   clear h1
   go_enter func144,ntmps144
   go_wp2;go_ret;exact ⟨S.ju g (ahi (x.left - 1)) S.q.next,rfl,HF.I.1,HF.I.2,.inr (afU.ju fun _ _=>⟨rfl,rfl,rfl,rfl⟩)⟩
  .rw [if_neg h1]
   have p1:0 < x.left - 1:=zo
   clear h1
   go_enter func144,ntmps144
   go_wp2;go_ret;exact ⟨S.ju g (ahi (x.left - 1)) S.q.next,rfl,HF.I.1,HF.I.2,.inl ⟨rfl,agG HJ.I.hx⟩⟩
def B5 {s:bD} {c:Nat} (J:Job w bj o d g E S x op bA) (hs:(s,c)∈S.ls) (hid:s.id=op.2.1):
  k_ J3 147 #[p_ (o_ ⟨d,0,n_⟩),p_ (o_ ⟨c,0,n_⟩)] w fun e w'=>agf E o bj g S (aiw op.2.1 S.pure s) w e w':=by
 have hb:=J.dg.at'.aj.box _ hs;have c1:w.cell? ⟨c,1,n_⟩=o_ (i_ j_ s.n):=by simp [World.cell?,hb,eH]
 have f1:w.frozen? ⟨c,1,n_⟩=false:=Ko _ _ _ _ _ hb;have hsr:=(cK J.right.aj s (Lr.2 ⟨_,hs,rfl⟩)).2;simp only [gw,J7] at hsr;obtain ⟨m0,m1⟩:=bz.1 hsr.1;obtain ⟨n0,n1⟩:=bz.1 hsr.2;have HE:bE (∃ S',o4 o bj S w S' (w.setCell ⟨c,1,n_⟩ (i_ j_ (s.n - 1)))/\S'.pure= { S.pure with aj:=jP (·.id) s.id (fun y=> { y with n:=y.n+ -1 }) S.pure.aj } /\S'.lp=S.lp/\S'.q=S.q):=o4.sem (fun y=> { y with n:=y.n+ -1 }) J.dg.at' hs (x':= { s with n:=s.n+ -1 }) (cx (i:=1) (v:=i_ j_ (s.n - 1)) hb) rfl rfl aI.cell;have HM:=aA (o4.refl J.dg.at');rw [hid] at HE;unfold aiw;clear hb J hsr
 go_enter func147,ntmps147
 by_cases h0:s.n=0
 .have e0:(s.n == 0)=true:=by simp [h0]
  rw [if_pos h0];clear h0;go_wp2;go_ret;exact ⟨_,rfl,HM.I,rfl,.inr afU.refl⟩
 .have e0:(s.n == 0)=false:=by simp [h0]
  rw [if_neg h0];exact ZaO
end Go.Proofs.YtfncpmaefninjaaGreatDoor
