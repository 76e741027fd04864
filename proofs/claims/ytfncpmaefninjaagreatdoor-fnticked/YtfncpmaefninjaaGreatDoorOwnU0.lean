/- What the proof leans on, part 0. -/
import Derived.Test.YtfncpmaefninjaaGreatDoorOwnT9
set_option linter.all false
set_option maxRecDepth 100000
set_option maxHeartbeats 8000000
open Go.Proofs.Tryz
open Go renaming World->w_,Calls->k_
open Go.Ending renaming returned->r_
open Go.IntKind renaming i64->j_
open Go.Obj renaming cells->c_
open Go.RowKit renaming Below->B_,Hid->bE
open Go.Value renaming int->i_,agg->a_
open Option renaming some->o_,none->n_

namespace Go.Proofs.YtfncpmaefninjaaGreatDoor
open Go.RowKit Go.Maps
attribute [local go_sem ↓] Go.wp_at_zero Go.wp_at_succ
theorem Iy {S:aZ} (h:aQ S.pure): ∀ p∈RW (fun x:ao=>x.id) S.lp,(Lit.int j_ p.1).wf=true:=fun p hp=>by
 obtain ⟨r,hr,rfl⟩:=Lr.1 hp;have h1:=(cK h.L8 r.1.toaD (Lr.2 ⟨r,hr,rfl⟩)).1;have h2:=bz.1 h1;have e1:IntKind.min j_<=0:=by decide
 have e2:100000<=IntKind.max j_:=by decide
 simp only [Lit.wf,J7,decide_eq_true_eq];have h3:r.1.toaD.id=r.1.id:=rfl;omega
theorem um (p:af) (w:w_) (hg:p.Good w):k_ Tryz.prog 13 #[a_ p.cells] w fun e w'=>e=r_ (i_ j_ (da p.pure))/\B_ w.heap.size w w':=by
 have HG:bE (p.Good (w.alloc (c_ p.cells 31))/\B_ w.heap.size w (w.alloc (c_ p.cells 31))):=⟨hg.below ((Kp _ _).alloc (Ki _) _),(Kp _ _).alloc (Ki _) _⟩
 clear hg;unfold af.cells at *
 go_enter func13,ntmps13
 go_wp2_with fail;generalize w.alloc (c_ p.row 31)=W at *;refine (iO p W HG.I.1).mono ?_;rintro e w1 ⟨hb1,⟨hno,rfl⟩ | ⟨fm,o,S,rfl,hat,gn⟩⟩
 .have HZ:bE (B_ w.heap.size w w1/\da p.pure=0):=⟨HG.I.2.trans (hb1.mono HG.I.2.size),by simp [da,dL hno]⟩
  clear hb1 hno;go_wp2;go_ret;exact ⟨ck HZ.I.2.symm,HZ.I.1⟩
 have HZ:bE (B_ w.heap.size w w1/\aQ S.pure/\cJ w1 W.heap.size o S/\S.pure=p.pure):=⟨HG.I.2.trans (hb1.mono HG.I.2.size),by rw [gn]; exact fm,hat,gn⟩
 have DM:bE (S.lp.length<=1048576):=by have h5:=HZ.I.2.1.dl; have h6:S.pure.L8.length=S.lp.length:=(by simp [aZ.pure]); show S.lp.length<=_; omega
 clear hb1 fm hat gn;go_wp2_with fail;refine (Cm o S.q S.lp W.heap.size w1 HZ.I.2.2.1.opn HZ.I.2.2.1.L8 DM.I (Iy HZ.I.2.1)).mono ?_;rintro e w2 ⟨rfl,hb2⟩;have cy:bE (B_ w.heap.size w w2):=HZ.I.1.trans (hb2.mono HZ.I.1.size);by_cases hr:0 < (et S.lp).length
 .have ya:decide (0 < (et S.lp).length)=true:=decide_eq_true hr
  obtain ⟨y,hy,hym⟩:=ql (l:=et S.lp) hr (Ki _);rw [LQ] at hy;have HC:bE (da p.pure=y.1.id):=by
   have h5:=vj (et S.lp);rw [hy,sI] at h5
   show da _=_
   rw [<- HZ.I.2.2.2];simp only [da,fP HZ.I.2.1,if_true,nL];have h6:jo (S.pure.L8.filter fun x=>decide (x.Md=1))=o_ y.1.toaD:=h5.symm;rw [h6]
  have lW:w2.heap[y.2]? =o_ (c_ (aX y.1) 41):=(HZ.I.2.2.1.L8.below hb2).box y (L2.1 hym).1;obtain ⟨s0,-⟩:=bo lW;rw [hy,ya];simp only [qz,dt,Option.map_some];clear hb2 hr ya hy hym lW;go_wp2;go_ret;exact ⟨ck HC.I.symm,cy.I⟩
 .have ya:decide (0 < (et S.lp).length)=false:=decide_eq_false hr
  have he:et S.lp= [] :=List.eq_nil_of_length_eq_zero zo;have HC:bE (da p.pure=0):=by
   have h5:=vj (et S.lp);rw [sI] at h5
   show da _=_
   rw [<- HZ.I.2.2.2];simp only [da,fP HZ.I.2.1,if_true,nL];have h6:jo (S.pure.L8.filter fun x=>decide (x.Md=1))=n_:=by rw [show S.pure.L8=S.lp.map (·.1.toaD) from rfl,<- h5,he]; rfl
   rw [h6]
  rw [ya,he];clear hb2 hr ya he;go_wp2;go_ret;exact ⟨ck HC.I.symm,cy.I⟩
end Go.Proofs.YtfncpmaefninjaaGreatDoor
