/- What the proof leans on, part 25. -/
import Derived.Test.YtfncpmaefninjaaGreatDoorOwnQ23
import Derived.Test.YtfncpmaefninjaaGreatDoorOwnQ24
import Derived.Test.YtfncpmaefninjaaGreatDoorRows
import Derived.LaidMore
import Derived.Stop.LaidTwo
import Derived.Stop.Joined
set_option linter.all false
set_option maxRecDepth 100000
set_option maxHeartbeats 8000000
open Go.Proofs.Tryz
open Go renaming World->w_,Value->v_,Calls->k_,Addr->d_,below_setRow->q_
open Go.Ending renaming returned->r_
open Go.IntKind renaming i64->j_
open Go.Obj renaming cells->c_
open Go.RowKit renaming Below->B_,Hid->bN
open Go.Value renaming int->i_,bool->b_,string->t_,agg->a_,pointer->p_,tuple->u_
open Option renaming some->o_,none->n_
open Go.Proofs.Tryz renaming prog->J3,underlying9->adP

namespace Go.Proofs.YtfncpmaefninjaaGreatDoor
section
open Go.RowKit Go.Maps
attribute [local go_sem ↓] Go.wp_at_zero Go.wp_at_succ
variable {w:w_} {bj o d g:Nat} {E:d_ × d_ × d_} {S:aZ} {x:ao} {op:dN} {bC:Int}
def agu (E:d_ × d_ × d_) (o bj g:Nat) (S:aZ) (r:aE × Int) (w:w_) (e:Ending) (w1:w_):Prop:=B_ w.heap.size w w1/\ ∃ fn ps qs args,e=r_ (.func (.func fn) ps qs)/\ps ++ qs=args/\(∀ args W,(callFunc fn args).run J3 W= .ok (.enter fn args) W)/\k_ J3 fn args w1 fun e' w2=>agf E o bj g S r w1 e' w2
def agu.bare {fn:Nat} {r:aE × Int} {w1:w_} (hb:B_ w.heap.size w w1) (hf: ∀ args W,(callFunc fn args).run J3 W= .ok (.enter fn args) W) (h:k_ J3 fn #[p_ (o_ ⟨d,0,n_⟩)] w1 fun e' w2=>agf E o bj g S r w1 e' w2):agu E o bj g S r w (r_ (agn fn d)) w1:=⟨hb,fn,_,_,_,rfl,by simp,hf,h⟩
def agu.made {fn H:Nat} {r:aE × Int} {w1:w_} (hb:B_ w.heap.size w w1) (hf: ∀ args W,(callFunc fn args).run J3 W= .ok (.enter fn args) W) (h:k_ J3 fn (ahD H) w1 fun e' w2=>agf E o bj g S r w1 e' w2):agu E o bj g S r w (r_ (.func (.func fn) #[] (ahD H))) w1:=⟨hb,fn,_,_,_,rfl,by simp,hf,h⟩
def ajr (h:fa w o S.q):(w.cell? ⟨o,2,n_⟩=o_ (i_ j_ 6)/\w.cell? ⟨o,3,n_⟩=o_ (.map (o_ S.q.bp)))/\(w.cell? ⟨o,4,n_⟩=o_ (i_ j_ 5)/\w.cell? ⟨o,5,n_⟩=o_ (.map (o_ S.q.bs)))/\(w.cell? ⟨o,6,n_⟩=o_ (i_ j_ 5)/\w.cell? ⟨o,7,n_⟩=o_ (.map (o_ S.q.be)))/\(w.cell? ⟨o,8,n_⟩=o_ (i_ j_ 5)/\w.cell? ⟨o,9,n_⟩=o_ (.map (o_ S.q.bb)))/\(w.cell? ⟨o,10,n_⟩=o_ (i_ j_ 5)/\w.cell? ⟨o,11,n_⟩=o_ (.map (o_ S.q.bf)))/\(w.cell? ⟨o,12,n_⟩=o_ (i_ j_ 5)/\w.cell? ⟨o,13,n_⟩=o_ (.map (o_ S.q.bq))):=
 ⟨⟨h.cell 2,h.cell 3⟩,⟨h.cell 4,h.cell 5⟩,⟨h.cell 6,h.cell 7⟩,⟨h.cell 8,h.cell 9⟩,⟨h.cell 10,h.cell 11⟩,⟨h.cell 12,h.cell 13⟩⟩
def ajW (J:Job w bj o d g E S x op bC):k_ J3 110 #[p_ (o_ ⟨d,0,n_⟩)] w fun e w1=>agu E o bj g S (agq bC x.toaD op S.pure) w e w1:=by
 have hk:=(dv J.ok).1;obtain ⟨d0,-,d2,d3,-⟩:=agb J.dg.box;obtain ⟨⟨p0,p1⟩,⟨s0',s1'⟩,⟨v0,v1⟩,⟨b0,b1⟩,⟨f0,f1⟩,⟨q0,q1⟩⟩:=ajr J.dg.at'.opn;have HJ:=aA J;have HV:bN (B_ w.heap.size w w.drew):=(Kp _ _).drew;clear J
 go_enter func110,ntmps110
 go_wp2_with fail;refine aT (fun w'=>w'=w.drew) Zcq rfl ?_
 iterate 11 (refine agj ?_)
 refine bk Zcq ?_ _;intro w1 cm;subst cm;by_cases h1:op.1=1
 .have e1:(op.1 == 1)=true:=by simp [h1]
  have HK:=aA h1;clear h1 hk;go_wp2;go_ret;rw [agq,if_pos HK.I];have eb:=HJ.I.below HV.I;exact agu.bare HV.I call144 (akl eb HK.I)
 have e1:(op.1 == 1)=false:=by simp [h1]
 by_cases h2:op.1=2
 .have e2:(op.1 == 2)=true:=by simp [h2]
  have HK:=aA h2;clear h2 hk;go_wp2;go_ret;rw [agq,if_neg h1,if_pos HK.I];have eb:=HJ.I.below HV.I;exact agu.bare HV.I call145 (ajz eb HK.I)
 have e2:(op.1 == 2)=false:=by simp [h2]
 by_cases h3:op.1=3
 .have e3:(op.1 == 3)=true:=by simp [h3]
  have HK:=aA h3;clear h3 hk;go_wp2_with fail;refine (ahV (m:=5) (n:=op.2.1) (b:=S.q.bs) (fn:=147) (d:=d)).mono ?_;rintro e w2 ⟨rfl,hw⟩;have HW:bN (ag1 w2 w.drew.heap.size S.q.bs op.2.1 (agn 147 d)/\B_ w.heap.size w w2):=by
   rw [hw];have h5:=agm w.drew 5 op.2.1 S.q.bs (agn 147 d) 72 2 215;exact ⟨h5.1,HV.I.trans h5.2⟩
  clear hw;go_wp2;go_ret;rw [agq,if_neg h1,if_neg h2,if_pos HK.I];have eb:=HJ.I.below HW.I.2;exact agu.made HW.I.2 call183 (ahF (f:=aiw op.2.1 S.pure) eb HW.I.1 ZcC call147 fun s c hs hid=>B5 eb hs hid)
 have e3:(op.1 == 3)=false:=by simp [h3]
 by_cases h4:op.1=4
 .have e4:(op.1 == 4)=true:=by simp [h4]
  have HK:=aA h4;clear h4 hk;go_wp2_with fail;refine (ahV (m:=5) (n:=op.2.1) (b:=S.q.bs) (fn:=148) (d:=d)).mono ?_;rintro e w2 ⟨rfl,hw⟩;have HW:bN (ag1 w2 w.drew.heap.size S.q.bs op.2.1 (agn 148 d)/\B_ w.heap.size w w2):=by
   rw [hw];have h5:=agm w.drew 5 op.2.1 S.q.bs (agn 148 d) 72 2 215;exact ⟨h5.1,HV.I.trans h5.2⟩
  clear hw;go_wp2;go_ret;rw [agq,if_neg h1,if_neg h2,if_neg h3,if_pos HK.I];have eb:=HJ.I.below HW.I.2;exact agu.made HW.I.2 call183 (ahF (f:=agx op.2.1 S.pure) eb HW.I.1 ZcC call148 fun s c hs hid=>ai1 eb hs hid)
 have e4:(op.1 == 4)=false:=by simp [h4]
 by_cases h5:op.1=5
 .have e5:(op.1 == 5)=true:=by simp [h5]
  have HK:=aA h5;clear h5 hk;go_wp2_with fail;refine (ag3 (m:=5) (n:=op.2.1) (b:=S.q.be) (fn:=150) (d:=d)).mono ?_;rintro e w2 ⟨rfl,hw⟩;have HW:bN (ag1 w2 w.drew.heap.size S.q.be op.2.1 (agn 150 d)/\B_ w.heap.size w w2):=by
   rw [hw];have h5:=agm w.drew 5 op.2.1 S.q.be (agn 150 d) 75 2 217;exact ⟨h5.1,HV.I.trans h5.2⟩
  clear hw;go_wp2;go_ret;rw [agq,if_neg h1,if_neg h2,if_neg h3,if_neg h4,if_pos HK.I];have eb:=HJ.I.below HW.I.2;exact agu.made HW.I.2 call185 (agY (f:=aks op.2.1 S.pure) eb HW.I.1 ZcC call150 fun s c hs hid=>akk eb hs hid)
 have e5:(op.1 == 5)=false:=by simp [h5]
 by_cases h6:op.1=6
 .have e6:(op.1 == 6)=true:=by simp [h6]
  have HK:=aA h6;clear h6 hk;go_wp2_with fail;refine (ag3 (m:=5) (n:=op.2.1) (b:=S.q.be) (fn:=151) (d:=d)).mono ?_;rintro e w2 ⟨rfl,hw⟩;have HW:bN (ag1 w2 w.drew.heap.size S.q.be op.2.1 (agn 151 d)/\B_ w.heap.size w w2):=by
   rw [hw];have h5:=agm w.drew 5 op.2.1 S.q.be (agn 151 d) 75 2 217;exact ⟨h5.1,HV.I.trans h5.2⟩
  clear hw;go_wp2;go_ret;rw [agq,if_neg h1,if_neg h2,if_neg h3,if_neg h4,if_neg h5,if_pos HK.I];have eb:=HJ.I.below HW.I.2;exact agu.made HW.I.2 call185 (agY (f:=aiJ op.2.1 S.pure) eb HW.I.1 ZcC call151 fun s c hs hid=>ajp eb hs hid)
 have e6:(op.1 == 6)=false:=by simp [h6]
 by_cases h7:op.1=7
 .have e7:(op.1 == 7)=true:=by simp [h7]
  have HK:=aA h7;clear h7 hk;go_wp2_with fail;refine (ag3 (m:=5) (n:=op.2.1) (b:=S.q.be) (fn:=152) (d:=d)).mono ?_;rintro e w2 ⟨rfl,hw⟩;have HW:bN (ag1 w2 w.drew.heap.size S.q.be op.2.1 (agn 152 d)/\B_ w.heap.size w w2):=by
   rw [hw];have h5:=agm w.drew 5 op.2.1 S.q.be (agn 152 d) 75 2 217;exact ⟨h5.1,HV.I.trans h5.2⟩
  clear hw;go_wp2;go_ret;rw [agq,if_neg h1,if_neg h2,if_neg h3,if_neg h4,if_neg h5,if_neg h6,if_pos HK.I];have eb:=HJ.I.below HW.I.2;exact agu.made HW.I.2 call185 (agY (f:=ahQ S.pure) eb HW.I.1 ZcC call152 fun s c hs _=>ajv eb hs)
 have e7:(op.1 == 7)=false:=by simp [h7]
 by_cases h8:op.1=8
 .have e8:(op.1 == 8)=true:=by simp [h8]
  have HK:=aA h8;clear h8 hk;go_wp2_with fail;refine (ahj (m:=5) (n:=op.2.1) (b:=S.q.bf) (fn:=154) (d:=d)).mono ?_;rintro e w2 ⟨rfl,hw⟩;have HW:bN (ag1 w2 w.drew.heap.size S.q.bf op.2.1 (agn 154 d)/\B_ w.heap.size w w2):=by
   rw [hw];have h5:=agm w.drew 5 op.2.1 S.q.bf (agn 154 d) 81 2 219;exact ⟨h5.1,HV.I.trans h5.2⟩
  clear hw;go_wp2;go_ret;rw [agq,if_neg h1,if_neg h2,if_neg h3,if_neg h4,if_neg h5,if_neg h6,if_neg h7,if_pos HK.I];have eb:=HJ.I.below HW.I.2;exact agu.made HW.I.2 call186 (ahb (f:=ag8 op.2.1 op.2.2.2 S.pure) eb HW.I.1 ZcC call154 fun s c hs hid=>aj3 eb hs hid)
 have e8:(op.1 == 8)=false:=by simp [h8]
 by_cases h9:op.1=9
 .have e9:(op.1 == 9)=true:=by simp [h9]
  have HK:=aA h9;clear h9 hk;go_wp2_with fail;refine (ahj (m:=5) (n:=op.2.1) (b:=S.q.bf) (fn:=155) (d:=d)).mono ?_;rintro e w2 ⟨rfl,hw⟩;have HW:bN (ag1 w2 w.drew.heap.size S.q.bf op.2.1 (agn 155 d)/\B_ w.heap.size w w2):=by
   rw [hw];have h5:=agm w.drew 5 op.2.1 S.q.bf (agn 155 d) 81 2 219;exact ⟨h5.1,HV.I.trans h5.2⟩
  clear hw;go_wp2;go_ret;rw [agq,if_neg h1,if_neg h2,if_neg h3,if_neg h4,if_neg h5,if_neg h6,if_neg h7,if_neg h8,if_pos HK.I];have eb:=HJ.I.below HW.I.2;exact agu.made HW.I.2 call186 (ahb (f:=ag5 op.2.1 x.id S.pure) eb HW.I.1 ZcC call155 fun s c hs hid=>ajZ eb hs hid)
 have e9:(op.1 == 9)=false:=by simp [h9]
 by_cases h10:op.1=10
 .have Pn:(op.1 == 10)=true:=by simp [h10]
  have HK:=aA h10;clear h10 hk;go_wp2_with fail;refine (ag2 (m:=5) (n:=op.2.1) (b:=S.q.bb) (fn:=157) (d:=d)).mono ?_;rintro e w2 ⟨rfl,hw⟩;have HW:bN (ag1 w2 w.drew.heap.size S.q.bb op.2.1 (agn 157 d)/\B_ w.heap.size w w2):=by
   rw [hw];have h5:=agm w.drew 5 op.2.1 S.q.bb (agn 157 d) 78 2 221;exact ⟨h5.1,HV.I.trans h5.2⟩
  clear hw;go_wp2;go_ret;rw [agq,if_neg h1,if_neg h2,if_neg h3,if_neg h4,if_neg h5,if_neg h6,if_neg h7,if_neg h8,if_neg h9,if_pos HK.I];have eb:=HJ.I.below HW.I.2;exact agu.made HW.I.2 call191 (agX (f:=ajf op.2.1 op.2.2.2 S.pure) eb HW.I.1 ZcC call157 fun s c hs hid=>aj1 eb hs hid)
 have Pn:(op.1 == 10)=false:=by simp [h10]
 by_cases h11:op.1=11
 .have e11:(op.1 == 11)=true:=by simp [h11]
  have HK:=aA h11;clear h11 hk;go_wp2_with fail;refine (ag2 (m:=5) (n:=op.2.1) (b:=S.q.bb) (fn:=158) (d:=d)).mono ?_;rintro e w2 ⟨rfl,hw⟩;have HW:bN (ag1 w2 w.drew.heap.size S.q.bb op.2.1 (agn 158 d)/\B_ w.heap.size w w2):=by
   rw [hw];have h5:=agm w.drew 5 op.2.1 S.q.bb (agn 158 d) 78 2 221;exact ⟨h5.1,HV.I.trans h5.2⟩
  clear hw;go_wp2;go_ret;rw [agq,if_neg h1,if_neg h2,if_neg h3,if_neg h4,if_neg h5,if_neg h6,if_neg h7,if_neg h8,if_neg h9,if_neg h10,if_pos HK.I];have eb:=HJ.I.below HW.I.2;exact agu.made HW.I.2 call191 (agX (f:=aiG op.2.1 S.pure) eb HW.I.1 ZcC call158 fun s c hs hid=>ajB eb hs hid)
 have e11:(op.1 == 11)=false:=by simp [h11]
 by_cases h12:op.1=12
 .have PF:(op.1 == 12)=true:=by simp [h12]
  have HK:=aA h12;clear h12 hk;go_wp2_with fail;refine (ag2 (m:=5) (n:=op.2.1) (b:=S.q.bb) (fn:=159) (d:=d)).mono ?_;rintro e w2 ⟨rfl,hw⟩;have HW:bN (ag1 w2 w.drew.heap.size S.q.bb op.2.1 (agn 159 d)/\B_ w.heap.size w w2):=by
   rw [hw];have h5:=agm w.drew 5 op.2.1 S.q.bb (agn 159 d) 78 2 221;exact ⟨h5.1,HV.I.trans h5.2⟩
  clear hw;go_wp2;go_ret;rw [agq,if_neg h1,if_neg h2,if_neg h3,if_neg h4,if_neg h5,if_neg h6,if_neg h7,if_neg h8,if_neg h9,if_neg h10,if_neg h11,if_pos HK.I];have eb:=HJ.I.below HW.I.2;exact agu.made HW.I.2 call191 (agX (f:=ain x.id S.pure) eb HW.I.1 ZcC call159 fun s c hs _=>ajG eb hs)
 have PF:(op.1 == 12)=false:=by simp [h12]
 by_cases h13:op.1=13
 .have PG:(op.1 == 13)=true:=by simp [h13]
  have HK:=aA h13;clear h13 hk;go_wp2_with fail;refine (ahy (m:=5) (n:=op.2.1) (b:=S.q.bq) (fn:=161) (d:=d)).mono ?_;rintro e w2 ⟨rfl,hw⟩;have HW:bN (ag1 w2 w.drew.heap.size S.q.bq op.2.1 (agn 161 d)/\B_ w.heap.size w w2):=by
   rw [hw];have h5:=agm w.drew 5 op.2.1 S.q.bq (agn 161 d) 84 2 223;exact ⟨h5.1,HV.I.trans h5.2⟩
  clear hw;go_wp2;go_ret;rw [agq,if_neg h1,if_neg h2,if_neg h3,if_neg h4,if_neg h5,if_neg h6,if_neg h7,if_neg h8,if_neg h9,if_neg h10,if_neg h11,if_neg h12,if_pos HK.I];have eb:=HJ.I.below HW.I.2;exact agu.made HW.I.2 call192 (ahn (f:=agw op.2.1 op.2.2.2 S.pure) eb HW.I.1 ZcC call161 fun s c hs hid=>ajE eb hs hid)
 have PG:(op.1 == 13)=false:=by simp [h13]
 by_cases h14:op.1=14
 .have e14:(op.1 == 14)=true:=by simp [h14]
  have HK:=aA h14;clear h14 hk;go_wp2_with fail;refine (ahy (m:=5) (n:=op.2.1) (b:=S.q.bq) (fn:=162) (d:=d)).mono ?_;rintro e w2 ⟨rfl,hw⟩;have HW:bN (ag1 w2 w.drew.heap.size S.q.bq op.2.1 (agn 162 d)/\B_ w.heap.size w w2):=by
   rw [hw];have h5:=agm w.drew 5 op.2.1 S.q.bq (agn 162 d) 84 2 223;exact ⟨h5.1,HV.I.trans h5.2⟩
  clear hw;go_wp2;go_ret;rw [agq,if_neg h1,if_neg h2,if_neg h3,if_neg h4,if_neg h5,if_neg h6,if_neg h7,if_neg h8,if_neg h9,if_neg h10,if_neg h11,if_neg h12,if_neg h13,if_pos HK.I];have eb:=HJ.I.below HW.I.2;exact agu.made HW.I.2 call192 (ahn (f:=agB op.2.1 x.id S.pure) eb HW.I.1 ZcC call162 fun s c hs hid=>ajw eb hs hid)
 have e14:(op.1 == 14)=false:=by simp [h14]
 by_cases h15:op.1=15
 .have e15:(op.1 == 15)=true:=by simp [h15]
  have HK:=aA h15;clear h15 hk;go_wp2_with fail;refine (ahE (m:=6) (n:=op.2.1) (b:=S.q.bp) (fn:=164) (d:=d)).mono ?_;rintro e w2 ⟨rfl,hw⟩;have HW:bN (ag1 w2 w.drew.heap.size S.q.bp op.2.1 (agn 164 d)/\B_ w.heap.size w w2):=by
   rw [hw];have h5:=agm w.drew 6 op.2.1 S.q.bp (agn 164 d) 69 2 225;exact ⟨h5.1,HV.I.trans h5.2⟩
  clear hw;go_wp2;go_ret;rw [agq,if_neg h1,if_neg h2,if_neg h3,if_neg h4,if_neg h5,if_neg h6,if_neg h7,if_neg h8,if_neg h9,if_neg h10,if_neg h11,if_neg h12,if_neg h13,if_neg h14,if_pos HK.I];have eb:=HJ.I.below HW.I.2;exact agu.made HW.I.2 call193 (ahm (f:=ahH op.2.1 S.pure) eb HW.I.1 ZcC call164 fun s c hs hid=>ajb eb hs hid)
 have e15:(op.1 == 15)=false:=by simp [h15]
 by_cases h16:op.1=16
 .have e16:(op.1 == 16)=true:=by simp [h16]
  have HK:=aA h16;clear h16 hk;go_wp2_with fail;refine (ahE (m:=6) (n:=op.2.1) (b:=S.q.bp) (fn:=165) (d:=d)).mono ?_;rintro e w2 ⟨rfl,hw⟩;have HW:bN (ag1 w2 w.drew.heap.size S.q.bp op.2.1 (agn 165 d)/\B_ w.heap.size w w2):=by
   rw [hw];have h5:=agm w.drew 6 op.2.1 S.q.bp (agn 165 d) 69 2 225;exact ⟨h5.1,HV.I.trans h5.2⟩
  clear hw;go_wp2;go_ret;rw [agq,if_neg h1,if_neg h2,if_neg h3,if_neg h4,if_neg h5,if_neg h6,if_neg h7,if_neg h8,if_neg h9,if_neg h10,if_neg h11,if_neg h12,if_neg h13,if_neg h14,if_neg h15,if_pos HK.I];have eb:=HJ.I.below HW.I.2;exact agu.made HW.I.2 call193 (ahm (f:=aiy op.2.1 x.id S.pure) eb HW.I.1 ZcC call165 fun s c hs hid=>aj4 eb hs hid)
 have e16:(op.1 == 16)=false:=by simp [h16]
 clear hk;go_wp2;go_ret;rw [agq,if_neg h1,if_neg h2,if_neg h3,if_neg h4,if_neg h5,if_neg h6,if_neg h7,if_neg h8,if_neg h9,if_neg h10,if_neg h11,if_neg h12,if_neg h13,if_neg h14,if_neg h15,if_neg h16];have eb:=HJ.I.below HV.I;exact agu.bare HV.I call166 (ajX eb)
variable {w:w_} {bj o d g:Nat} {E:d_ × d_ × d_} {S:aZ} {x:ao} {op:dN} {bC:Int}
structure Did (w:w_) (bj o d g:Nat) (E:d_ × d_ × d_) (S:aZ) (x:ao) (op:dN) (bC:Int) (r:aE × Int) (S2:aZ) (w2:w_):Prop where
 mv:o4 o bj S w S2 w2
 dg:afb w2 bj o d g S2 op bC
 er:Ers w2 bj E
 pure:S2.pure=r.1
 VO:r.2= -1/\g∈S2.lp.map (·.2)\/afU g S S2
section
variable {r:aE × Int} {S2:aZ} {w2 w3:w_}
def Did.below (h:Did w bj o d g E S x op bC r S2 w2) (hb:B_ w2.heap.size w2 w3):Did w bj o d g E S x op bC r S2 w3:=
 ⟨h.mv.trans (o4.below h.mv.at' hb),h.dg.move (o4.below h.mv.at' hb),h.er.below ((o4.below h.mv.at' hb).cd h.mv.at' h.dg.low),h.pure,h.VO⟩
def Did.proc (h:Did w bj o d g E S x op bC r S2 w2) (J:Job w bj o d g E S x op bC) (hn: ¬ r.2= -1): ∃ y,(y,g)∈S2.lp/\y.id=x.id/\(0<=y.pc/\y.pc < y.prog.length)/\y.prog.length<=1048576/\w2.heap[g]? =o_ (c_ (aX y) 41):=by
 obtain ⟨y,hy,h1,h2,h3,-⟩:=(h.VO.resolve_left fun h5=>hn h5.1) x J.hx;have hp:=iT (J.right.proc (Lr.2 ⟨_,J.hx,rfl⟩)).2.1 (by have:=J.up; omega: ¬ x.toaD.Md=0);refine ⟨y,hy,h1,?_,?_,h.dg.at'.L8.box _ hy⟩
 .rw [h2,h3]
  exact hp
 .rw [h3]
  exact St J.right J.hx
def Did.ju {y:ao} {f:ao->ao} {f':aD->aD} {nx:Int} (h:Did w bj o d g E S x op bC r S2 w2) (hy:(y,g)∈S2.lp) (hid:y.id=x.id) (hf: ∀ y:ao,f y=⟨f' y.toaD,y.aY,y.bH⟩) (hm:o4 o bj S2 w2 (S2.ju g f nx) w3):o4 o bj S w (S2.ju g f nx) w3/\(S2.ju g f nx).pure= { r.1 with next:=nx,L8:=ce x.id f' r.1.L8 } :=by
 refine ⟨h.mv.trans hm,?_⟩;rw [<- h.pure,<- hid];have Sw:S2.pure.L8.Pairwise (fun x y=>x.id < y.id):=by
  have h5:=h.dg.at'.L8.map.2;unfold zP RW at h5;rw [Qm] at h5
  show (S2.lp.map (·.1.toaD)).Pairwise _
  rw [Qm];exact h5
 exact aZ.Sb Sw (fun p hp hpg=>h.dg.at'.L8.one hp hy hpg) hy (fun y=>by rw [hf y])
end
def aio (c:Int) (y:aD):(jT c y).id=y.id/\(jT c y).prog=y.prog:=by
 unfold jT
 split <;> exact ⟨rfl,rfl⟩
def DoEnd (o bj g:Nat) (S:aZ) (p:aE) (w:w_) (e:Ending) (w':w_):Prop:=e=r_ (u_ #[])/\ ∃ S',o4 o bj S w S' w'/\S'.pure=p/\g∈S'.lp.map (·.2)
def do_any (J:Job w bj o d g E S x op bC):k_ J3 71 #[p_ (o_ ⟨d,0,n_⟩)] w fun e w'=>DoEnd o bj g S (aic bC x.id op (agq bC x.toaD op S.pure)) w e w':=by
 have HW:=aA (ajA bC x.toaD op S.pure);have HC:=aA (ajW J);obtain ⟨r,hr⟩: ∃ r,r=agq bC x.toaD op S.pure:=⟨_,rfl⟩
 rw [<- hr] at HW HC ⊢;have HJ:=aA J;clear J hr
 go_enter func71,ntmps71
 go_wp2_with fail;refine HC.I.mono ?_;rintro e w1 ⟨hb1,fn,ps,qs,args,rfl,ha,hF,Mb⟩;have HA:=aA Mb;have HB:=aA hb1;clear Mb hb1 HC;go_wp2_with fail;refine HA.I.mono ?_;rintro e w2 ⟨S2,rfl,hm,hp,hkp⟩;have HD:bN (Did w bj o d g E S x op bC r S2 w2):=by
  have h1:=(o4.below HJ.I.dg.at' HB.I).trans hm;exact ⟨h1,HJ.I.dg.move h1,HJ.I.er.below (h1.cd HJ.I.dg.at' HJ.I.dg.low),hp,hkp⟩
 have hz:B_ w2.heap.size w2 (w2.alloc (c_ #[i_ j_ 0] 192)):=(Kp _ _).alloc (Ki _) _;have HZ:bN (Did w bj o d g E S x op bC r S2 (w2.alloc (c_ #[i_ j_ 0] 192))/\(w2.alloc (c_ #[i_ j_ 0] 192)).heap[w2.heap.size]? =o_ (c_ #[i_ j_ 0] 192)/\B_ w2.heap.size w2 (w2.alloc (c_ #[i_ j_ 0] 192))):=⟨HD.I.below hz,Kj _ _,hz⟩
 have gp:=HZ.I.1.er.past;clear hm hp hkp hz HA HB ha hF;go_wp2_with fail;refine (akd HZ.I.1.er HW.I.1).mono ?_;rintro e w4 ⟨rfl,hb4⟩;have H4:bN (Did w bj o d g E S x op bC r S2 w4/\w4.heap[w2.heap.size]? =o_ (c_ #[i_ j_ 0] 192)/\B_ w2.heap.size w2 w4):=⟨HZ.I.1.below hb4,(hb4.block _ (J2.1 HZ.I.2.1).1).trans HZ.I.2.1,HZ.I.2.2.trans (hb4.mono HZ.I.2.2.size)⟩
 clear hb4 gp HZ;by_cases h1:r.2= -1
 .have e1:isP r.2 (-1)=true:=by unfold isP; simp [h1]
  have H1:=aA h1;rw [e1];clear h1 e1;go_wp2;refine KT (results_none rfl _ _ _) rfl ⟨rfl,S2,H4.I.1.mv,?_,H4.I.1.VO.elim (fun h5=>h5.2) fun h5=>Lr.2 ⟨_,(h5 x HJ.I.hx).choose_spec.1,rfl⟩⟩;rw [H4.I.1.pure,aic,if_pos H1.I]
 have e1:isP r.2 (-1)=false:=by unfold isP; simp [h1]
 have H1:=aA h1;rw [e1];clear h1 e1;go_wp2_with fail;refine (as_any H4.I.1.er HW.I.1 H4.I.2.1).mono ?_;rintro e w5 ⟨rfl,ht5,hk5⟩;have iJ:B_ w2.heap.size w4 w5:=hk5.below H4.I.2.2.size zw;have H5:bN (Did w bj o d g E S x op bC r S2 w5/\(10<=r.2->w5.heap[w2.heap.size]? =o_ (c_ #[i_ j_ (r.2 - 10)] 192))):=⟨HD.I.below (H4.I.2.2.trans iJ),ht5⟩
 clear ht5 hk5 iJ H4;have d4:=(agb H5.I.1.dg.box).2.2.2.2.1;have hm:=bz.1 (dv HJ.I.ok).2.2.1;have hnx:S2.q.next=r.1.next:=by rw [<- H5.I.1.pure]; rfl
 by_cases h2:10<=r.2/\ ¬ op.2.2.1=0
 .have e2:(op.2.2.1 != 0)=true:=by simp [h2.2]
  have c5:w5.cell? ⟨w2.heap.size,0,n_⟩=o_ (i_ j_ (r.2 - 10)):=by simp [World.cell?,H5.I.2 h2.1]
  have H2:=aA h2;rw [decide_eq_true h2.1];clear h2;obtain ⟨y,hy,hyi,-⟩:=H5.I.1.proc HJ.I H1.I;have HY:=aA (And.intro hy hyi);have hn:S2.q.next=S.q.next:=by rw [hnx,HW.I.2 H2.I.1]; rfl
  have Mb:=ajs (r.2 - 10) H5.I.1.dg hy (by rw [hn]; exact HJ.I.nx.1) (by rw [hn]; exact HJ.I.nx.2) hm.1 hm.2 H2.I.2 HJ.I.bC.1 HJ.I.bC.2;clear hn hy hyi hm;go_wp2_with fail;refine Mb.mono ?_;clear Mb d4 e2 c5;rintro e w6 ⟨rfl,hm6⟩;have HF:=aA (H5.I.1.ju (f':=zb S2.q.next (r.2 - 10) op.2.1 op.2.2.2 (kZ bC op.2.2.1)) HY.I.1 HY.I.2 (fun _=>rfl) hm6);clear hm6;go_wp2
  go_end0
  refine ⟨rfl,_,HF.I.1,?_,agG HY.I.1⟩;rw [HF.I.2,aic,if_neg H1.I,if_pos H2.I.1,mX,if_neg H2.I.2,hnx];rfl
 have HN:bN (10<=r.2->op.2.2.1=0):=fun h5=>Decidable.byContradiction fun h6=>h2 ⟨h5,h6⟩
 have hb:decide (10<=r.2)=false\/decide (10<=r.2)=true/\(op.2.2.1 != 0)=false:=by
  by_cases h5:10<=r.2
  .exact .inr ⟨decide_eq_true h5,by simp [HN.I h5]⟩
  .exact .inl (decide_eq_false h5)
 have H6:bN (Did w bj o d g E S x op bC r S2 w5.drew):=H5.I.1.below (Kp _ _).drew;have hS:w5.drew.heap[d]? =o_ (c_ (dgV o g op bC) 142):=H6.I.dg.box;have HX:=aA hnx;clear h2 hm hnx H5 HD;rcases hb with hb | ⟨hb,e2⟩
 all_goals rw [hb]; clear hb
 all_goals go_wp2_with fail
 all_goals
  clear d4;refine Kr (S:=fun W=>W.heap[d]? =o_ (c_ (dgV o g op bC) 142)) Zcq hS (fun _=> ?_)
  revert hS H6
  generalize w5.drew=V;intro H6 hS;refine tt 0 hS ?_;refine tt 1 hS ?_;refine tt 2 hS ?_;refine afJ 3 hS ?_;refine tt 4 hS ?_;refine L7 5 (fun K hK=> ?_);go_wp2_with fail;refine (ai9 H6.I.er H6.I.dg.low HW.I.1).mono ?_;rintro e w6 ⟨rfl,jQ⟩;have H7:=aA (H6.I.below jQ);have hS6:=H7.I.dg.box;clear jQ;go_wp2_with fail;refine hK.out _ _ hS6 (fun _=> ?_);clear hK K hS
  try simp only [pt,sb,s0,s1]
  obtain ⟨y,hy,hyi,hpc,hl,lW⟩:=H7.I.proc HJ.I H1.I;have HY:=aA (And.intro hy hyi);have Mb:=Sj g y (ag6 r.2) w6 lW hpc hl;clear hy hyi hpc hl lW;refine L7 6 (fun K hK=> ?_);go_wp2_with fail;refine Mb.mono ?_;clear Mb;rintro e w7 ⟨rfl,gh,hk7⟩;have ho:=(H7.I.dg.at'.apart (aZ.ago (LB _ (Lr.2 ⟨_,HY.I.1,rfl⟩)))).1;have HM:=aA (o4.ju (f:=fE (ag6 r.2)) (nx:=S2.q.next) H7.I.dg.at' (fun y=>⟨(aio _ y.toaD).1,(aio _ y.toaD).2,rfl,rfl⟩) HY.I.1 gh ((hk7.same o (H7.I.dg.at'.lt o zw) (by simpa using ho)).trans H7.I.dg.at'.opn) (hk7.mono zw));have wj:=(H7.I.dg.move HM.I).box;clear gh hk7 ho;go_wp2_with fail;refine hK.out _ _ wj (fun _=> ?_);clear hK K hS6 wj
  try simp only [pt,sb,s0,s1]
  refine K3 Zcq ?_ _;have HF:=aA (H7.I.ju (f':=jT (ag6 r.2)) HY.I.1 HY.I.2 (fun _=>rfl) HM.I);go_wp2
  go_end0
  refine ⟨rfl,_,HF.I.1,?_,agG HY.I.1⟩;rw [HF.I.2,show aic bC x.id op r=bu (ag6 r.2) x.id r.1 from ajV HW.I.1 H1.I HN.I,HX.I];rfl
section
variable {S:aZ} {w:w_} {bj o g:Nat} {x:ao}
def aiV (h:aQ S.pure):et S.lp=age 1 0 S.lp:=by
 unfold et age;refine List.filter_congr fun p hp=> ?_
 by_cases e:p.1.Md=1
 .have h1:=(aia (h.proc (Lr.2 ⟨p,hp,rfl⟩)).2.1 e).1
  rw [decide_eq_true e];exact (agD.2 ⟨e,h1⟩).symm
 .rw [decide_eq_false e]
  cases h5:ie 1 0 p.1.toaD with
  | false=>rfl
  | true=>exact absurd (agD.1 h5).1 e
def aiZ (h:aQ S.pure):(li (et S.lp)=n_/\(et S.lp).length=0/\jl 1 0 S.pure.L8=n_)\/ ∃ x c,li (et S.lp)=o_ (x,c)/\0 < (et S.lp).length/\jl 1 0 S.pure.L8=o_ x.toaD/\(x,c)∈S.lp/\x.Md=1:=by
 rw [aiV h];have e:=ah9 (st:=1) (on:=0) S.lp;rcases hl:age 1 0 S.lp with _ | ⟨z,r⟩
 .rw [hl] at e
  exact .inl ⟨rfl,rfl,e.symm⟩
 .obtain ⟨y,h5,hm⟩:=ql (l:=z :: r) (k:=(z :: r).length) zw (Ki _)
  rw [LQ] at h5;rw [hl,h5] at e;obtain ⟨x,c⟩:=y;rw [<- hl] at hm;have hx:=L2.1 hm;exact .inr ⟨x,c,h5,by simp,e.symm,hx.1,(agD.1 hx.2).1⟩
def ajU (h:cJ w bj o S) (hx:(x,g)∈S.lp) {k:Nat} (hk:k < x.prog.length) (hp:x.pc=(k:Int)): ∃ abo,x.aY=o_ ⟨abo,0,n_⟩/\w.cell? ⟨abo,k * 4,n_⟩=o_ (i_ j_ (opAt x.toaD).1)/\w.cell? ⟨abo,k * 4+1,n_⟩=o_ (i_ j_ (opAt x.toaD).2.1)/\w.cell? ⟨abo,k * 4+2,n_⟩=o_ (i_ j_ (opAt x.toaD).2.2.1)/\w.cell? ⟨abo,k * 4+3,n_⟩=o_ (t_ (opAt x.toaD).2.2.2):=by
 have hoa:x.prog[k]? =o_ (opAt x.toaD):=by unfold opAt; rw [show x.toaD.pc.toNat=k by rw [show x.toaD.pc=(k:Int) from hp]; rfl,Kz hk]; rfl
 have hr:Row w x.aY (fk.flat x.prog):=nP (h.eI _ hx);have key: ∀ j:Nat,j < 4-> ∀ v,(fk.vals (opAt x.toaD))[j]? =o_ v-> ∃ abo,x.aY=o_ ⟨abo,0,n_⟩/\w.cell? ⟨abo,k * 4+j,n_⟩=o_ v:=fun j hj v hv=>hr _ _ ((Kind.jw (K:=fk) hoa hj).trans hv)
 obtain ⟨g0,e0,h0⟩:=key 0 (by decide) _ rfl;obtain ⟨g1,e1,h1⟩:=key 1 (by decide) _ rfl;obtain ⟨g2,e2,h2⟩:=key 2 (by decide) _ rfl;obtain ⟨g3,e3,h3⟩:=key 3 (by decide) _ rfl;rw [e0] at e1 e2 e3;obtain rfl:g0=g1:=by simpa using e1
 obtain rfl:g0=g2:=by simpa using e2
 obtain rfl:g0=g3:=by simpa using e3
 exact ⟨g0,e0,h0,h1,h2,h3⟩
end
def cJ.keepA {w w':w_} {bj o:Nat} {S:aZ} (h:cJ w bj o S) (hs: ∀ g∈S.al o,w'.heap[g]? =w.heap[g]?):cJ w' bj o S:=by
 have hb: ∀ g,(g∈(S.q.bp :: S.lp.map (·.2))\/g∈(S.q.bs :: S.ls.map (·.2))\/g∈(S.q.be :: S.le.map (·.2))\/g∈(S.q.bb :: S.lb.map (·.2))\/g∈(S.q.bf :: S.lf.map (·.2))\/g∈(S.q.bq :: S.lq.map (·.2)))->w'.heap[g]? =w.heap[g]? :=fun g hg=>hs g (by unfold aZ.al aZ.boxes; simp only [Kt (a:=g) (b:=o),Kg]; exact .inr (.inl hg))
 have hk: ∀ g,(g∈kids aR S.lp\/g∈kids aC S.lf\/g∈kids aU S.lq)->w'.heap[g]? =w.heap[g]? :=fun g hg=>hs g (by unfold aZ.al aZ.kids; simp only [Kt (a:=g) (b:=o),Kg]; exact .inr (.inr hg))
 exact ⟨(hs o (by unfold aZ.al; simp)).trans h.opn,h.L8.same fun g hg=>hb g (.inl hg),h.aj.same fun g hg=>hb g (.inr (.inl hg)),h.L9.same fun g hg=>hb g (.inr (.inr (.inl hg))),h.ag.same fun g hg=>hb g (.inr (.inr (.inr (.inl hg)))),h.ae.same fun g hg=>hb g (.inr (.inr (.inr (.inr (.inl hg))))),h.ai.same fun g hg=>hb g (.inr (.inr (.inr (.inr (.inr hg))))),fun p hp=>(h.eI p hp).same fun g hg=>hk g (.inl (Lq.2 ⟨p,hp,hg⟩)),fun p hp=>(h.eE p hp).same fun g hg=>hk g (.inr (.inl (Lq.2 ⟨p,hp,hg⟩))),fun p hp=>(h.eR p hp).same fun g hg=>hk g (.inr (.inr (Lq.2 ⟨p,hp,hg⟩))),h.nodup,h.low⟩
section
variable {ops:Array Oper} {rest:List Oper} {o:Oper} {a:Act} {w:w_} {Q:Exit->Act->w_->Prop} {fn:Func} {R:Ending->w_->Prop} {p u:Tmp} {old:Array v_} {g:Nat} {cs:Array v_}
def stR (n m:Nat) (cs:Array v_) (hg:w.heap[g]? =o_ (c_ old 98)) (h:wpList J3 ops Q rest (a.put o.dst undef) (w.setRow g cs)) (hgd:o.guard=n_:=by exact rfl) (ho:o.op= .store 98 (.tmp n) (.tmp m):=by exact rfl)
  (hx:a.eval (.tmp n)=p_ (o_ ⟨g,0,n_⟩):=by exact rfl) (hy:a.eval (.tmp m)=a_ cs:=by exact rfl) (hi:(Tryz.prog.info? 98).map (·.size)=o_ cs.size:=by kernel_rfl) (hs:old.size=cs.size:=by exact rfl) (h1:cs.all (·.oneCell')=true:=by kernel_rfl):wpList J3 ops Q (o :: rest) a w:=
 wpList_store_row hgd 98 (.tmp n) (.tmp m) ho g _ old cs hx hy hg hi hs h1 h
def rtR (hr:fn.results= #[.cell p 98,.tmp u]) (v:v_) (hg:w.heap[g]? =o_ (c_ old 98)) (h:R (r_ (u_ #[a_ cs,v])) (w.setRow g cs)) (hp:a.tmps.getD p undef=p_ (o_ ⟨g,0,n_⟩):=by rfl) (hv:a.tmps.getD u undef=v:=by exact rfl) (hd:a.defers= [] :=by exact rfl)
  (hi:(Tryz.prog.info? 98).map (·.size)=o_ cs.size:=by kernel_rfl):bodyPost J3 fn R .ret a (w.setRow g cs):=
 KT (v:=u_ #[a_ cs,v]) (by rw [<- hv]; exact bL hr _ _ g _ _ _ _ hp (KU _ _ _ _ _ _ hg) underlying98 rfl hi) hd h
end
structure Tkg (w:w_) (bj o B:Nat) (E:d_ × d_ × d_) (S:aZ) (w':w_):Prop where
 at':cJ w' bj o S
 er:Ers w' bj E
 low:bj<=w'.heap.size
 cd:B_ bj w w'
 box:w'.heap[B]? =o_ (c_ #[i_ j_ 0,i_ j_ 0] 98)
 I:B∉S.al o
 up:bj<=B
def Tkg.move {w w1 w2:w_} {bj o B:Nat} {E:d_ × d_ × d_} {S S2:aZ} (h:Tkg w bj o B E S w1) (hm:o4 o bj S w1 S2 w2):Tkg w bj o B E S2 w2:=by
 have hl:=(J2.1 h.box).1;have hb:=hm.cd h.at' h.low;exact ⟨hm.at',h.er.below hb,LG h.low hb.size,h.cd.trans hb,(hm.kept.same B hl h.I).trans h.box,fun h5=>h.I (hm.new B h5 hl),h.up⟩
def Tkg.ends {w w1:w_} {bj o B:Nat} {E:d_ × d_ × d_} {S:aZ} (h:Tkg w bj o B E S w1) (cs:Array v_):cJ (w1.setRow B cs) bj o S/\B_ bj w (w1.setRow B cs):=
 ⟨h.at'.keepA fun _ hg=>KH _ _ _ _ fun e=>h.I (e ▸ hg),q_ h.cd h.up _⟩
abbrev ah5 (bC nx:Int):Bool:=cv bC 0 1000000000 && decide (nx<=999999980)
def aki (o bj:Nat) (S:aZ) (bC:Int) (w:w_) (e:Ending) (w':w_):Prop:= ∃ (a b:Int) (S2:aZ),e=r_ (u_ #[a_ #[i_ j_ a,i_ j_ b],b_ (ah5 bC S.q.next)])/\cJ w' bj o S2/\(ah5 bC S.q.next=true->S2.pure=mS bC S.pure)/\B_ bj w w'
def ajI (o bj:Nat) (E:d_ × d_ × d_) (S:aZ) (bC:Int) (w:w_) (h:cJ w bj o S) (lY:bj<=w.heap.size) (hr:aQ S.pure) (he:Ers w bj E):
  k_ J3 36 #[p_ (o_ ⟨o,0,n_⟩),i_ j_ bC] w fun e w'=>aki o bj S bC w e w':=by
 have hz:B_ w.heap.size w (w.alloc (c_ #[i_ j_ 0,i_ j_ 0] 98)):=(Kp _ _).alloc (Ki _) _;have H0:bN (Tkg w bj o w.heap.size E S (w.alloc (c_ #[i_ j_ 0,i_ j_ 0] 98))/\aQ S.pure):=⟨⟨h.below hz,he.below (hz.mono lY),LG lY hz.size,hz.mono lY,Kj _ _,fun h5=>Nat.lt_irrefl _ (h.lt _ h5),lY⟩,hr⟩
 have Mb:=ajo o bj S bC _ H0.I.1.at' H0.I.1.low (iB hr) hr;clear h lY hr he hz
 go_enter func36,ntmps36
 go_wp2_with fail;refine Mb.mono ?_;clear Mb;rintro e w2 ⟨S2,rfl,hf2,hp2,hm2⟩;have H2:=aA (H0.I.1.move hm2);cases hv:(cv bC 0 1000000000 && decide (S.q.next<=999999980))
 .have HV:=aA hv
  clear hm2 hp2 hf2 hv;go_wp2_with (refine stR 4 13 #[i_ j_ 0,i_ j_ 0] H2.I.box ?_);refine rtR results36 (b_ false) H2.I.box ?_;exact ⟨0,0,S2,by rw [ah5,HV.I],(H2.I.ends _).1,(fun e=>by rw [ah5,HV.I] at e; cases e),(H2.I.ends _).2⟩
 have hv2:=hv;rw [J7,decide_eq_true_eq] at hv2;have hp:=hp2 hv;have hwr:=ru (bC:=bC) H0.I.2 (show S.q.next<=_ by omega);rw [<- hp] at hwr;have HR:bN (aQ S2.pure/\S2.q.next<=999999990/\(0<=bC/\bC<=1000000000)/\S2.pure=gj bC S.pure):=⟨hwr.1,by have h5:=hwr.2.2; have h6:S2.pure.next=S2.q.next:=rfl; have h7:S.pure.next=S.q.next:=rfl; omega,bz.1 hv2.1,hp⟩
 have HV:=aA hv;have hlp:S2.lp.length<=1048576:=by
  have h5:=HR.I.1.dl;have h6:S2.pure.L8.length=S2.lp.length:=by simp [aZ.pure]
  omega
 have Mb:=Cm o S2.q S2.lp bj w2 H2.I.at'.opn H2.I.at'.L8 hlp hf2.Jl;clear hm2 hp2 hf2 hv hv2 hp hwr H0 hlp;go_wp2_with fail;refine Mb.mono ?_;clear Mb;rintro e w3 ⟨rfl,hb3⟩;have H3:=aA (H2.I.move (o4.below H2.I.at' hb3));clear hb3 H2;rcases aiZ HR.I.1 with ⟨n1,n2,n3⟩ | ⟨x,g,n1,n2,n3,hx,hs⟩
 .have d0:decide (0 < (et S2.lp).length)=false:=decide_eq_false zo
  have HN:bN (mS bC S.pure=S2.pure):=by show mS _ _=_; unfold mS; rw [<- HR.I.2.2.2,n3]
  rw [d0,n1];clear d0 n1 n2 n3;simp only [qz,Option.map_none];go_wp2_with (refine stR 4 21 #[i_ j_ 0,i_ j_ 0] H3.I.box ?_);refine rtR results36 (b_ true) H3.I.box ?_;exact ⟨0,0,S2,by rw [ah5,HV.I],(H3.I.ends _).1,fun _=>HN.I.symm,(H3.I.ends _).2⟩
 have d0:decide (0 < (et S2.lp).length)=true:=decide_eq_true n2;have hp:=iT (HR.I.1.proc (Lr.2 ⟨_,hx,rfl⟩)).2.1 (by have:=hs; omega: ¬ x.toaD.Md=0);obtain ⟨k,hk⟩: ∃ k:Nat,x.pc=(k:Int):=⟨x.pc.toNat,by have h5:0<=x.pc:=hp.1; omega⟩
 have hkl:k < x.prog.length:=by have h5:x.pc < x.prog.length:=hp.2; omega
 have H4:=aA (H3.I.move (o4.below H3.I.at' (Kp _ _).drew));obtain ⟨abo,hgi,o0,o1,o2,o3⟩:=ajU H4.I.at' hx hkl hk;have HX:bN ((x,g)∈S2.lp/\x.Md=1/\jl 1 0 S2.pure.L8=o_ x.toaD/\kc (opAt x.toaD)=true):=⟨hx,hs,n3,(AW (bC:=bC) HR.I.1 (Lr.2 ⟨_,hx,rfl⟩) hs HR.I.2.1 HR.I.2.2.1).1⟩
 have hS:(fun W:w_=>W.heap[g]? =o_ (c_ (aX x) 41)/\W.cell? ⟨abo,k * 4,n_⟩=o_ (i_ j_ (opAt x.toaD).1)/\W.cell? ⟨abo,k * 4+1,n_⟩=o_ (i_ j_ (opAt x.toaD).2.1)/\W.cell? ⟨abo,k * 4+2,n_⟩=o_ (i_ j_ (opAt x.toaD).2.2.1)/\W.cell? ⟨abo,k * 4+3,n_⟩=o_ (t_ (opAt x.toaD).2.2.2)) w3.drew:=⟨H4.I.at'.L8.box _ hx,o0,o1,o2,o3⟩
 have HG:bN (x.aY=o_ ⟨abo,0,n_⟩/\x.pc=(k:Int)):=⟨hgi,hk⟩
 have j0:(0:Int)<=(k:Int):=zo
 have j1:(k:Int) < (x.prog.length:Int):=zo
 rw [d0,n1];clear d0 n1 n2 n3 hx hs hp hk hgi o0 o1 o2 o3 H3;simp only [qz,dt,Option.map_some];go_wp2_with fail;refine Kr (S:=fun W=>W.heap[g]? =o_ (c_ (aX x) 41)/\W.cell? ⟨abo,k * 4,n_⟩=o_ (i_ j_ (opAt x.toaD).1)/\W.cell? ⟨abo,k * 4+1,n_⟩=o_ (i_ j_ (opAt x.toaD).2.1)/\W.cell? ⟨abo,k * 4+2,n_⟩=o_ (i_ j_ (opAt x.toaD).2.2.1)/\W.cell? ⟨abo,k * 4+3,n_⟩=o_ (t_ (opAt x.toaD).2.2.2)) Zcq hS (fun _=> ?_)
 revert hS H4
 generalize w3.drew=V;intro H4 hS;refine tt 0 hS ?_;refine tt 1 hS ?_;refine tt 2 hS ?_;refine tt 3 hS ?_;refine tt 4 hS ?_;refine tt 5 hS ?_ (hy:=fun w0 hS0=>by obtain ⟨p0,p1,p2,p3,p4,p5,YH,VZ,afe,Y4,p10,p11⟩:=bo hS0.1; rw [HG.I.1] at p2; go_simp; try with_reducible rfl);refine tt 6 hS ?_;refine tt 7 hS ?_;refine tt 8 hS ?_;refine tt 9 hS ?_ (hy:=fun w0 hS0=>by obtain ⟨p0,p1,p2,p3,p4,p5,YH,VZ,afe,Y4,p10,p11⟩:=bo hS0.1; rw [HG.I.2] at p4; go_simp; try with_reducible rfl);refine tt 10 hS ?_;refine afJ 11 hS ?_;refine tt 12 hS ?_;refine tt 13 hS ?_;have hz:B_ V.heap.size V (V.alloc (c_ #[p_ n_,p_ n_,i_ j_ 0,i_ j_ 0,i_ j_ 0,t_ ⟨#[]⟩,i_ j_ 0] 142)):=(Kp _ _).alloc (Ki _) _;have hz2:B_ V.heap.size V ((V.alloc (c_ #[p_ n_,p_ n_,i_ j_ 0,i_ j_ 0,i_ j_ 0,t_ ⟨#[]⟩,i_ j_ 0] 142)).setRow V.heap.size (dgV o g (opAt x.toaD) bC)):=q_ hz (Ki _) _;have hd:(V.alloc (c_ #[p_ n_,p_ n_,i_ j_ 0,i_ j_ 0,i_ j_ 0,t_ ⟨#[]⟩,i_ j_ 0] 142)).heap[V.heap.size]? =o_ (c_ #[p_ n_,p_ n_,i_ j_ 0,i_ j_ 0,i_ j_ 0,t_ ⟨#[]⟩,i_ j_ 0] 142):=Kj _ _;have op0: ∀ {W W':w_},B_ W.heap.size W W'->(W.heap[g]? =o_ (c_ (aX x) 41)/\W.cell? ⟨abo,k * 4,n_⟩=o_ (i_ j_ (opAt x.toaD).1)/\W.cell? ⟨abo,k * 4+1,n_⟩=o_ (i_ j_ (opAt x.toaD).2.1)/\W.cell? ⟨abo,k * 4+2,n_⟩=o_ (i_ j_ (opAt x.toaD).2.2.1)/\W.cell? ⟨abo,k * 4+3,n_⟩=o_ (t_ (opAt x.toaD).2.2.2))->(W'.heap[g]? =o_ (c_ (aX x) 41)/\W'.cell? ⟨abo,k * 4,n_⟩=o_ (i_ j_ (opAt x.toaD).1)/\W'.cell? ⟨abo,k * 4+1,n_⟩=o_ (i_ j_ (opAt x.toaD).2.1)/\W'.cell? ⟨abo,k * 4+2,n_⟩=o_ (i_ j_ (opAt x.toaD).2.2.1)/\W'.cell? ⟨abo,k * 4+3,n_⟩=o_ (t_ (opAt x.toaD).2.2.2)):=fun hb h5=>⟨(hb.block _ (J2.1 h5.1).1).trans h5.1,(J1 (hb.block _ (Le h5.2.1))).trans h5.2.1,(J1 (hb.block _ (Le h5.2.2.1))).trans h5.2.2.1,(J1 (hb.block _ (Le h5.2.2.2.1))).trans h5.2.2.2.1,(J1 (hb.block _ (Le h5.2.2.2.2))).trans h5.2.2.2.2⟩
 have cm:=op0 hz hS;have y5:=op0 hz2 hS;clear op0;refine L7 14 (fun K hK=> ?_);go_wp2_with fail;refine hK.out _ _ cm (fun _=> ?_);clear hK K
 try simp only [pt,sb,s0,s1]
 refine L7 15 (fun K hK=> ?_);refine qd 142 (.tmp 8) (.tmp 35) rfl V.heap.size _ _ (dgV o g (opAt x.toaD) bC) rfl rfl hd Zcq rfl Zcq ?_;refine hK.out _ _ y5 (fun _=> ?_);clear hK K;refine K3 Zcq ?_ _;have H5:bN (Tkg w bj o w.heap.size E S2 ((V.alloc (c_ #[p_ n_,p_ n_,i_ j_ 0,i_ j_ 0,i_ j_ 0,t_ ⟨#[]⟩,i_ j_ 0] 142)).setRow V.heap.size (dgV o g (opAt x.toaD) bC))/\Job ((V.alloc (c_ #[p_ n_,p_ n_,i_ j_ 0,i_ j_ 0,i_ j_ 0,t_ ⟨#[]⟩,i_ j_ 0] 142)).setRow V.heap.size (dgV o g (opAt x.toaD) bC)) bj o V.heap.size g E S2 x (opAt x.toaD) bC):=by
  have h5:=H4.I.move (o4.below H4.I.at' hz2);exact ⟨h5,⟨⟨h5.at',KU _ _ _ _ _ _ hd,fun h6=>Nat.lt_irrefl _ (H4.I.at'.lt _ h6),h5.low⟩,h5.er,HX.I.1,HR.I.1,HX.I.2.1,HR.I.2.1,HX.I.2.2.2,rfl,HR.I.2.2.1⟩⟩
 revert H5
 generalize (V.alloc (c_ #[p_ n_,p_ n_,i_ j_ 0,i_ j_ 0,i_ j_ 0,t_ ⟨#[]⟩,i_ j_ 0] 142)).setRow V.heap.size (dgV o g (opAt x.toaD) bC)=U;intro H5;clear hz hz2 hd cm y5 hS;go_wp2_with fail;refine (do_any H5.I.2).mono ?_;rintro e w7 ⟨rfl,S3,hm7,hp7,xI⟩;have H7:=aA (H5.I.1.move hm7);have HE:bN (S3.pure=mS bC S.pure):=by
  show S3.pure=_
  rw [hp7,<- op_fin HR.I.1 (Lr.2 ⟨_,HX.I.1,rfl⟩) HX.I.2.1];unfold mS;rw [<- HR.I.2.2.2,HX.I.2.2.1]
 obtain ⟨y,hy⟩: ∃ y,(y,g)∈S3.lp:=by
  obtain ⟨r,hr,e5⟩:=Lr.1 xI;exact ⟨r.1,by rw [<- e5]; exact hr⟩
 have H8:=aA (H7.I.move (o4.below H7.I.at' (Kp _ _).drew));have hS:(fun W:w_=>W.cell? ⟨o,0,n_⟩=o_ (i_ j_ S3.q.id)/\W.cell? ⟨g,0,n_⟩=o_ (i_ j_ y.id)) w7.drew:=⟨H8.I.at'.opn.cell 0,(bo (H8.I.at'.L8.box _ hy)).1⟩
 have y5:(fun W:w_=>W.cell? ⟨o,0,n_⟩=o_ (i_ j_ S3.q.id)/\W.cell? ⟨g,0,n_⟩=o_ (i_ j_ y.id)) (w7.drew.setRow w.heap.size #[i_ j_ S3.q.id,i_ j_ y.id]):=⟨((H8.I.ends _).1.opn.cell 0),(bo ((H8.I.ends _).1.L8.box _ hy)).1⟩
 clear hm7 hp7 xI hy H7;go_wp2_with fail;refine Kr (S:=fun W=>W.cell? ⟨o,0,n_⟩=o_ (i_ j_ S3.q.id)/\W.cell? ⟨g,0,n_⟩=o_ (i_ j_ y.id)) Zcq hS (fun _=> ?_)
 revert hS y5 H8
 generalize w7.drew=YL;intro H8 hS y5;refine tt 0 hS ?_;refine tt 1 hS ?_;refine tt 2 hS ?_;refine afJ 3 hS ?_;refine tt 4 hS ?_;refine tt 5 hS ?_;refine tt 6 hS ?_;refine afJ 7 hS ?_;refine tt 8 hS ?_;refine L7 9 (fun K hK=> ?_);refine qd 98 (.tmp 4) (.tmp 45) rfl w.heap.size _ _ #[i_ j_ S3.q.id,i_ j_ y.id] rfl rfl H8.I.box Zcq rfl Zcq ?_;refine hK.out _ _ y5 (fun _=> ?_);clear hK K;refine tk 10 (v:= ?_) ?_ y5 ?_; rotate_left; (intro w0 hS0; go_simp; try with_reducible rfl); simp only [pt];refine K3 Zcq ?_ _;go_wp2;refine rtR results36 (b_ true) H8.I.box ?_;exact ⟨S3.q.id,y.id,S3,by rw [ah5,HV.I],(H8.I.ends _).1,fun _=>HE.I,(H8.I.ends _).2⟩
def Ers.up {w:w_} {bj base':Nat} {E:d_ × d_ × d_} (h:Ers w bj E) (hb:bj<=base'):Ers w base' E:=⟨h.past,h.non,h.not,LG h.low hb,h.ety,fun b h5=>⟨Kn (h.bx b h5).1 hb,(h.bx b h5).2⟩,h.ne⟩
structure ByI (w:w_) (bj o:Nat) (E:d_ × d_ × d_) (p:aE) (bC:Int) (i:Nat) (S:aZ) (wr:w_):Prop where
 at':cJ wr bj o S
 er:Ers wr bj E
 low:bj<=wr.heap.size
 tick:agI bC p i S.pure
 cd:B_ w.heap.size w wr
 box:wr.heap[w.heap.size+1]? =o_ (c_ ar 31)
 hi:w.heap.size+1 < bj
def agC (p:af) (bC n:Int) (E:d_ × d_ × d_) (w:w_) (hg:p.Good w) (he:Ers w w.heap.size E) (hw: -9223372036854775808<=bC/\bC<=9223372036854775807):
  k_ J3 19 #[a_ p.cells,i_ j_ bC,i_ j_ n] w fun e w'=>gI w (agc p.pure bC n) e w':=by
 have b1:B_ w.heap.size w ((w.alloc (c_ p.cells 31)).alloc (c_ ar 31)):=dT _ _ _;have HB:bN (p.Good ((w.alloc (c_ p.cells 31)).alloc (c_ ar 31))/\B_ w.heap.size w ((w.alloc (c_ p.cells 31)).alloc (c_ ar 31))/\((w.alloc (c_ p.cells 31)).alloc (c_ ar 31)).heap[w.heap.size+1]? =o_ (c_ ar 31)/\av ((w.alloc (c_ p.cells 31)).alloc (c_ ar 31)) w.heap.size p/\Ers ((w.alloc (c_ p.cells 31)).alloc (c_ ar 31)) w.heap.size E):=⟨hg.below b1,b1,(cZ w _ _).2,(cZ w _ _).1,he.below b1⟩
 clear hg b1 he;obtain ⟨m0,m1,m2,m3,m4,m5,m6,m7⟩:=HB.I.2.2.2.1.cells;unfold af.cells at *
 go_enter func19,ntmps19
 go_wp2_with fail;generalize (w.alloc (c_ p.row 31)).alloc (c_ ar 31)=W at *;clear m0 m1 m2 m3 m4 m5 m6 m7;refine (iO p W HB.I.1).mono ?_;rintro e w1 ⟨hb1,⟨hno,rfl⟩ | ⟨fm,o,S,rfl,hat,gn⟩⟩
 .have HZ:bN (B_ w.heap.size w w1/\w1.heap[w.heap.size+1]? =o_ (c_ ar 31)):=⟨HB.I.2.1.trans (hb1.mono HB.I.2.1.size),(hb1.block _ (J2.1 HB.I.2.2.1).1).trans HB.I.2.2.1⟩
  have HN:bN (agc p.pure bC n=n_):=by show agc _ _ _=n_; unfold agc; rw [dL hno]; rfl
  clear hb1 hno;go_wp2_with (refine ec _ _ ar HZ.I.2 ?_);refine mG results19 (b_ false) HZ.I.2 ?_;exact X_
 have HI:bN (ByI w W.heap.size o E p.pure bC 0 S w1):=by
  have h1:=(J2.1 HB.I.2.2.1).1;exact ⟨hat,(HB.I.2.2.2.2.up HB.I.2.1.size).below hb1,hb1.size,by rw [<- gn]; exact agI.start (by rw [gn]; exact fm),HB.I.2.1.trans (hb1.mono HB.I.2.1.size),(hb1.block _ h1).trans HB.I.2.2.1,h1⟩
 have HR:bN (bK p.pure=true):=fP fm;clear hb1 fm hat gn HB;by_cases h1:n < 0
 .exact Tu
 by_cases h2:200 < n
 .exact Tu
 obtain ⟨m,rfl⟩: ∃ m:Nat,n=(m:Int):=⟨n.toNat,zo⟩
 have HN:bN (agc p.pure bC m=agL bC p.pure m):=by show agc _ _ _=_; unfold agc; rw [HR.I,bz.2 ⟨zo,zo⟩]; rfl
 clear HR;go_wp2_with fail
 go_loopw [30] (fun i wr=> ∃ k:Nat,k<=m/\i=i_ j_ k/\bN (∃ S1,ByI w W.heap.size o E p.pure bC k S1 wr)) (fun i _=>m - (Go.RowKit.intOf i).toNat)
 case atStart=>exact ⟨0,Ky _,rfl,S,HI.I⟩
 case round=>
  clear HI;obtain ⟨k,hk,rfl,HI⟩:=hrel;obtain ⟨S1,h5⟩:=HI.I;replace HI:=aA h5;clear h5;by_cases hlt:k < m
  .have i1:(k:Int) < (m:Int):=zo
   have r0: -9223372036854775808<=bC+(k:Int):=by rcases HI.I.tick.akr with h5 | h5 <;> omega
   have r1:bC+(k:Int)<=9223372036854775807:=by rcases HI.I.tick.akr with h5 | h5 <;> omega
   go_wp2_with fail;refine (ajI o W.heap.size E S1 (bC+k) wr HI.I.at' HI.I.low HI.I.tick.right HI.I.er).mono ?_;rintro e w2 ⟨a,b,S2,rfl,g8,hp2,hb2⟩;have hz:B_ w2.heap.size w2 (w2.alloc (c_ #[i_ j_ a,i_ j_ b] 98)):=(Kp _ _).alloc (Ki _) _;have hbl:=hb2.trans (hz.mono (LG HI.I.low hb2.size));have HW:bN (cJ (w2.alloc (c_ #[i_ j_ a,i_ j_ b] 98)) W.heap.size o S2/\Ers (w2.alloc (c_ #[i_ j_ a,i_ j_ b] 98)) W.heap.size E/\W.heap.size<=(w2.alloc (c_ #[i_ j_ a,i_ j_ b] 98)).heap.size/\B_ w.heap.size w (w2.alloc (c_ #[i_ j_ a,i_ j_ b] 98))/\(w2.alloc (c_ #[i_ j_ a,i_ j_ b] 98)).heap[w.heap.size+1]? =o_ (c_ ar 31)):=⟨g8.below hz,HI.I.er.below hbl,LG HI.I.low hbl.size,HI.I.cd.trans (hbl.mono (by have:=HI.I.hi; omega)),(hbl.block _ HI.I.hi).trans HI.I.box⟩
   cases hv:ah5 (bC+k) S1.q.next with
   | false=>
    have HF:=aA (HI.I.tick.no (n:=m) hv hlt);clear hz hbl g8 hp2 hb2;go_wp2_with (refine ec _ _ ar HW.I.2.2.2.2 ?_);refine mG results19 (b_ false) HW.I.2.2.2.2 ?_;exact ca (HN.I.trans HF.I) (q_ HW.I.2.2.2.1 zo _)
   | true=>
    have HF:bN (ByI w W.heap.size o E p.pure bC (k+1) S2 (w2.alloc (c_ #[i_ j_ a,i_ j_ b] 98))):=⟨HW.I.1,HW.I.2.1,HW.I.2.2.1,by rw [hp2 hv]; exact HI.I.tick.next hv,HW.I.2.2.2.1,HW.I.2.2.2.2,HI.I.hi⟩
    clear hz hbl g8 hp2 hb2 HW HI;go_wp2_with fail;go_roundw
    case rel=>exact ⟨k+1,zo,by go_num,S2,HF.I⟩
    case measure=>simp [Go.RowKit.intOf]; omega
  .obtain rfl:k=m:=zo
   clear hlt hk;go_wp2_with fail;refine (jR o W.heap.size S1 wr HI.I.at' (iB HI.I.tick.right)).mono ?_;rintro e w3 ⟨r,rfl,Bn,wu,hb3⟩;have H3:bN (ap w3 W.heap.size r/\B_ w.heap.size w w3/\w3.heap[w.heap.size+1]? =o_ (c_ ar 31)/\agc p.pure bC k=o_ r.pure/\w.heap.size+1 < W.heap.size):=⟨Bn,HI.I.cd.trans (hb3.mono HI.I.cd.size),(hb3.block _ (J2.1 HI.I.box).1).trans HI.I.box,by rw [HN.I,HI.I.tick.is,wu],HI.I.hi⟩
   clear Bn wu hb3 HN HI;go_wp2_with (refine ec _ _ (af.cells r) H3.I.2.2.1 ?_);refine mG results19 (b_ true) H3.I.2.2.1 ?_;exact Zaz
end
section
open Go.ChangeShapes Go.WideShapes Go.ChangeAt Go.RowKit
def ldS : List (String × DataW Unit) := [("loop.example/g00313/impl.errNone", Rows.laid_loop_example_g00313_impl_errNone), ("loop.example/g00313/impl.errNot", Rows.laid_loop_example_g00313_impl_errNot), ("loop.example/g00313/impl.errNotPast", Rows.laid_loop_example_g00313_impl_errNotPast)]
def ldH : List (String × DataW Unit) := ("errors.errorType", Rows.laid_errors_errorType) :: ldS
def aji : "*" ++ "errors.errorString" = "*errors.errorString" := by decide
def aiq (u : TypeId) (h : Tryz.prog.typeName? 3 u = some "*errors.errorString") : u = 287 :=
 typeName_ptr_named (nm := "errors.errorString") (by rw [aji]; kernel_rfl) Zcq (by decide) u (by rw [aji]; exact h)
def aib {W:World} (h:laidMetH J3 ldH W):W.cell? ⟨1,0,none⟩=some (.iface 250 (.agg #[.pointer (some ⟨4,187,none⟩)]))/\laidMet J3 ldS W:=by
 have h' : laidMet J3 ldS W /\ handlesMet J3 [("errors.errorType", Rows.laid_errors_errorType)] W := h;refine ⟨?_,h'.1⟩;obtain ⟨name,u,ty,e1,e2,e3,e4,e5⟩:=h'.2 _ (KB.2 rfl);have en:name= [101,114,114,111,114] :=(KC e1).symm;subst en;obtain rfl := KC ((show (Tryz.prog.cutTypes.find? (·.1 == "internal/reflectlite.rtype")).map (·.2) = some 250 by kernel_rfl).symm.trans e2);have hm:ty∈(List.range Tryz.prog.types.size).filter fun t=>Tryz.prog.rowNamed t [101,114,114,111,114] :=L2.2 ⟨List.mem_range.2 e3,e4⟩
 rw [show ((List.range Tryz.prog.types.size).filter fun t=>Tryz.prog.rowNamed t [101,114,114,111,114])= [187] by kernel_rfl] at hm;obtain rfl:=KB.1 hm;rw [show typeHandle J3 187= .pointer (some ⟨4,187,none⟩) by kernel_rfl] at e5;simpa using World.var?_cell (show Tryz.prog.globalNamed "errors.errorType" = some 1 by kernel_rfl) e5 0
def ahW {W:World} (h:laidMetH J3 ldH W): ∃ E,Ers W W.heap.size E:=by
 obtain ⟨hty,hL⟩:=aib h;obtain ⟨a0,a1,s0,s1,c0,c1,t0,t1,v0,v1,x0,z0,-,x1,z1,-,ne01,b0,b1⟩:=laid_sentinels2 hL (g0:=2) (g1:=3) Zcq Zcq Zcq Zcq Tryz.underlying187 aiq Tryz.underlying287 Tryz.underlying321 rfl rfl adP Zcq Zcq;obtain ⟨a1',a2,s1',s2,c1',c2,t1',t2,v1',v2,-,-,-,x2,z2,-,ne12,-,b2⟩:=laid_sentinels2 hL.tail (g0:=3) (g1:=0) Zcq Zcq Zcq Zcq Tryz.underlying187 aiq Tryz.underlying287 Tryz.underlying321 rfl rfl adP Zcq Zcq;obtain rfl:a1=a1':=by
  have h5:=v1.symm.trans v1';simpa using h5
 have ne02:a0≠a2:=fun e=>by
  subst e;have h5:s0=s2:=by simpa using x0.symm.trans x2
  rw [<- h5,z0] at z2;exact absurd z2 (by decide)
 have k0 := World.var?_cell (show Tryz.prog.globalNamed "loop.example/g00313/impl.errNone" = some 2 by kernel_rfl) v0 0;have k1 := World.var?_cell (show Tryz.prog.globalNamed "loop.example/g00313/impl.errNot" = some 3 by kernel_rfl) v1 0;have k2 := World.var?_cell (show Tryz.prog.globalNamed "loop.example/g00313/impl.errNotPast" = some 0 by kernel_rfl) v2 0;refine ⟨(a2,a0,a1),⟨k2,k0,k1,?_,hty,fun b hb=> ?_,ne02.symm,ne12.symm,ne01⟩⟩
 .have l0:=Le k0
  have l1:=Le k1;have l2:=Le k2;have l3:=Le hty;simp only at l0 l1 l2 l3;omega
 .rcases hb with rfl | rfl | rfl
  .exact ⟨(J2.1 b2).1,c2,t2,b2⟩
  .exact ⟨(J2.1 b0).1,c0,t0,b0⟩
  .exact ⟨(J2.1 b1).1,c1,t1,b1⟩
end
end Go.Proofs.YtfncpmaefninjaaGreatDoor
