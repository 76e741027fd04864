/- What the proof leans on, part 39: DwB, DwBare. -/
import Derived.Test.YtkbcplnlehdjfaaGreatOwnB2
import Derived.Test.YtkbcplnlehdjfaaGreatOwnB5
import Derived.Test.YtkbcplnlehdjfaaGreatOwnB19
import Derived.Test.YtkbcplnlehdjfaaGreatOwnB23
import Derived.Test.YtkbcplnlehdjfaaGreatOwnB26
import Derived.Test.YtkbcplnlehdjfaaGreatOwnB27
import Derived.Test.YtkbcplnlehdjfaaGreatOwnB29
import Derived.Test.YtkbcplnlehdjfaaGreatOwnB30
import Derived.Test.YtkbcplnlehdjfaaGreatOwnB38
import Derived.Deep.CutRange
import Derived.Laws.Rows
import Derived.Deep.Cut
set_option maxRecDepth 100000
set_option maxHeartbeats 8000000

namespace Go.Proofs.YtkbcplnlehdjfaaGreat
open Go.RowKit
theorem kv {s:ByteArray} (h:bw s=true):s.size≤1048576:=by
 unfold bw at h
 simp only [Bool.and_eq_true,decide_eq_true_eq] at h
 omega
theorem ta {p:aE} (h:aQ p):p.Small:=by
 have hid: ∀ {α:Type} {num:α→Int} {ok:α→Bool} {last:Int} {l:List α},aw num ok last l=true→ ∀ x∈l,(Lit.int .i64 (num x)).wf=true∧ok x=true:=fun hl x hx=>by
  obtain ⟨h1,h2⟩:=cK hl x hx
  have:=bz.1 h1
  exact ⟨pT (by omega) (by omega),h2⟩
 have hwf: ∀ {α:Type} {num:α→Int} {ok:α→Bool} {last k:Int} {l:List α},aw num ok last l=true→decide (k∈l.map num)=true→(Lit.int .i64 k).wf=true:=fun hl hk=>by
  obtain ⟨x,hx,rfl⟩:=List.mem_map.1 (of_decide_eq_true hk)
  exact (hid hl x hx).1
 refine ⟨by have:=h.dl; omega,by have:=h.fx; omega,by have:=h.cD; omega,by have:=h.cC; omega,by have:=h.cb; omega,by have:=h.dH; omega,fun x hx=> ?_,fun x hx=>(hid h.aj x hx).1,fun x hx=>(hid h.events x hx).1,fun x hx=> ?_,fun x hx=> ?_,fun x hx=> ?_⟩
 ·obtain ⟨k0,k1,k2,k3⟩:=h.proc hx
  have hb:=iF k1
  unfold jY at hb
  simp only [Bool.and_eq_true] at hb
  have hl:=lK hb.1.1.1.2
  have hi:=bz.1 k0
  have hnx:=bz.1 h.next
  refine ⟨⟨by omega,fun o ho=> ?_,kv hb.1.1.2,kv hb.1.2⟩,pT (by omega) (by omega),?_,?_⟩
  ·obtain ⟨i,hi1,hi2⟩:=List.mem_iff_getElem.1 ho
   exact kv (dv (yG hb.1.1.1.2 (i:=i) (by rw [List.getElem?_eq_getElem hi1,hi2]))).2.2.2.1
  ·unfold dG at k3
   by_cases h3:3≤x.state
   ·rw [if_pos h3] at k3
    unfold hasB at k3
    split at k3
    ·exact hwf h.aj k3
    ·split at k3
     ·exact hwf h.events k3
     ·split at k3
      ·exact hwf h.ae k3
      ·split at k3
       ·exact hwf h.ag k3
       ·cases k3
   ·rw [fG,Bool.and_eq_true] at k1
    have k4:=k1.2
    unfold bO at k4
    have h0:x.on=0:=by
     split at k4
     ·simp only [Bool.and_eq_true,decide_eq_true_eq] at k4; exact k4.1.1.2
     ·split at k4
      ·simp only [Bool.and_eq_true,decide_eq_true_eq] at k4; exact k4.1.2
      ·split at k4
       ·simp only [Bool.and_eq_true,decide_eq_true_eq] at k4; exact k4.1.2
       ·split at k4
        ·omega
        ·split at k4
         ·omega
         ·cases k4
    rw [h0]; rfl
  ·by_cases h0:x.state=0
   ·rw [kx k1 h0]; rfl
   ·unfold fF at k2
    simp only [Bool.or_eq_true,decide_eq_true_eq,h0,false_or] at k2
    have:=bz.1 k2
    exact pT (by omega) (by omega)
 ·obtain ⟨k1,k2⟩:=hid h.ag x hx
  unfold cU at k2
  simp only [Bool.and_eq_true] at k2
  exact ⟨k1,kv k2.1⟩
 ·obtain ⟨k1,k2⟩:=hid h.ae x hx
  unfold ct at k2
  simp only [Bool.and_eq_true] at k2
  have k3:=lv.1 k2.2
  have k4:=bz.1 k2.1
  exact ⟨k1,by omega,fun s hs=>kv (k3.2 s hs)⟩
 ·obtain ⟨k1,k2⟩:=hid h.ai x hx
  unfold dj at k2
  simp only [Bool.and_eq_true] at k2
  have k3:=lv.1 k2.2
  have k4:=bz.1 k2.1.1
  exact ⟨k1,by omega,fun s hs=>kv (k3.2 s hs)⟩
theorem iR {p p':aE} :((cB p p').getD cN).Small:=by
 unfold cB
 split
 ·rename_i h
  simp only [Bool.and_eq_true] at h
  exact ta ((ch _).1 h.2)
 ·exact hY
theorem za {p:aE} {now:Int} :((hZ p now).getD cN).Small:=by
 unfold hZ
 split
 ·rename_i h
  simp only [Bool.and_eq_true,decide_eq_true_eq] at h
  exact ta (DA ((ch _).1 h.1.1) h.2 (bz.1 h.1.2)).1
 ·exact hY
theorem wZ {p:aE} {id:Int} (hp:p.Small):((kD p id).getD cN).Small:=by
 unfold kD
 refine zJ hp fun h y _ hy=> ?_
 have h2:=IZ h
 exact ⟨hy.1,hy.2.1,hy.2.2.1,h2⟩
theorem ap.renum {W:World} {base:Nat} {q:af} (h:ap W base q) (id nx:Int):ap W base { q with id:=id,next:=nx } :=⟨h.procs,h.aj,h.events,h.ag,h.ae,h.ai,h.eI,h.eE,h.eR,h.nodup⟩
theorem EV {id:Int} (_h:cv id 1 6=true):(⟨id,1,[],none,0,[],none,0,[],none,0,[],none,0,[],none,0,[],none,0⟩:af).pure.Small:=⟨Nat.zero_le _,Nat.zero_le _,Nat.zero_le _,Nat.zero_le _,Nat.zero_le _,Nat.zero_le _,(fun x hx=>by cases hx),(fun x hx=>by cases hx),(fun x hx=>by cases hx),(fun x hx=>by cases hx),(fun x hx=>by cases hx),(fun x hx=>by cases hx)⟩
theorem vP: ∀ os:List dN,gO os=fk.flat os
 | [] =>rfl
 | o :: os=>by
  show _=fk.vals o ++ fk.flat os
  rw [← vP os]
  rfl
theorem gG.setRow {r X:Nat} {w W:World} (h:gG r w W) (hX:w.heap.size≤X) (cs:Array Value):gG r w (W.setRow X cs):=
 ⟨h.os,h.tape,h.output,by simpa using h.size,fun k h1 h2=>(setRow_other _ _ _ _ (by omega)).trans (h.block k h1 h2)⟩
structure Dw (r:Nat) (a:Option Addr) (len cap:Nat) (w:World) (X:Nat) (q:af) (W:World):Prop where
 rd:Rd r a len cap W
 st:Rd r a len cap w
 but:gG r w W
 own:ap W (w.heap.size+1) q
 nin:X∉q.blocks
 small:q.pure.Small
 box:av W X q
 mK:W.heap[w.heap.size]? =some (.cells ar 32 (0,0))
 hx:w.heap.size < X
section
variable {r len cap X:Nat} {a:Option Addr} {w W W2:World} {q q2:af}
theorem Dw.drawn (h:Dw r a len cap w X q W) (hb:gG r W W2) (hr:Rd r a len cap W2):Dw r a len cap w X q W2:=by
 have hl:=h.st.lt
 have hx:=h.hx
 exact ⟨hr,h.st,h.but.trans hb,h.own.same fun g hg=>hb.block g (h.own.lt g hg).2 (by have:=(h.own.lt g hg).1; omega),h.nin,h.small,(hb.block _ (av.lt h.box) (by omega)).trans h.box,(hb.block _ (Array.getElem?_eq_some_iff.1 h.mK).1 (by omega)).trans h.mK,hx⟩
theorem Dw.reads (h:Dw r a len cap w X q W) (hb:Below W.heap.size W W2):Dw r a len cap w X q W2:=h.drawn (gG.dI hb) (h.rd.below hb)
theorem Dw.put (h:Dw r a len cap w X q W) (hb:Below W.heap.size W W2) (ho:ap W2 W.heap.size q2) (hs:q2.pure.Small):Dw r a len cap w X q2 (W2.setRow X q2.cells):=by
 have h1:=h.reads hb
 have hx:=h.hx
 have hl:=h.st.lt
 have hXW:=av.lt h.box
 have hrl:=h1.rd
 refine ⟨⟨?_,h.st.2.but (h1.but.setRow (by omega) _)⟩,h.st,h1.but.setRow (by omega) _,(ho.lower (by omega)).same fun g hg=>setRow_other _ _ _ _ (by have:=(ho.lt g hg).1; omega),fun hm=>by have:=(ho.lt X hm).1; omega,hs,setRow_heap _ _ _ _ _ _ h1.box,(setRow_other _ _ _ _ (by omega)).trans h1.mK,hx⟩
 obtain ⟨p,hp,hc⟩:=hrl.1
 exact ⟨p,hp,(setRow_other _ _ _ _ (by omega)).trans hc⟩
theorem Dw.first (hr:Rd r a len cap W) (st:Rd r a len cap w) (hb:gG r w W) (ho:ap W (w.heap.size+1) q) (hs:q.pure.Small) (ha:W.heap[w.heap.size]? =some (.cells ar 32 (0,0))):Dw r a len cap w W.heap.size q ((W.alloc (.cells ar 32)).setRow W.heap.size q.cells):=by
 have hl:=(Array.getElem?_eq_some_iff.1 ha).1
 have h1:Below W.heap.size W ((W.alloc (.cells ar 32)).setRow W.heap.size q.cells):=below_setRow ((Below.refl _ _).alloc (Nat.le_refl _) _) (Nat.le_refl _) _
 exact ⟨hr.below h1,st,hb.trans (gG.dI h1),ho.below h1,fun hm=>by have:=(ho.lt _ hm).2; omega,hs,setRow_heap _ _ _ _ _ _ (heap_alloc_new _ _),(h1.block _ hl).trans ha,hl⟩
theorem Dw.cell {x y:ao} {gs n j:Nat} {v:Value} (h:Dw r a len cap w X q W) (hx:q.procs[n]? =some x) (ha:q.aN=some ⟨gs,0,none⟩) (hy:y.prog=x.prog∧y.aY=x.aY∧y.bH=x.bH) (hj:j < 12) (hv:bg.vals y=(bg.vals x).set j v) (hs:({ q with procs:=q.procs.set n y } :af).pure.Small):
  Dw r a len cap w X ({ q with procs:=q.procs.set n y } :af) (W.setCell ⟨gs,n * 12+j,none⟩ v)∧(∃ u,W.cell? ⟨gs,n * 12+j,none⟩=some u)∧W.frozen? ⟨gs,n * 12+j,none⟩=false:=by
 obtain ⟨s1,h2⟩:=eY h.own hx ha hy hj hv
 have hg:gs∈q.blocks:=tN ha
 have hgl:=h.own.lt gs hg
 have hl:=h.st.lt
 have hb:gG r w (W.setCell ⟨gs,n * 12+j,none⟩ v):=⟨h.but.os,h.but.tape,h.but.output,by rw [ja]; exact h.but.size,fun k h5 h6=>(aH (by omega)).trans (h.but.block k h5 h6)⟩
 have hne:X≠gs:=fun e=>h.nin (e ▸ hg)
 have hbl:({ q with procs:=q.procs.set n y } :af).blocks=q.blocks:=nT (nx:=q.next) hx hy.2.1
 refine ⟨⟨⟨?_,h.st.2.but hb⟩,h.st,hb,s1.own,by rw [hbl]; exact h.nin,hs,?_,(aH (by omega)).trans h.mK,h.hx⟩,h2⟩
 ·obtain ⟨p,hp,hc⟩:=h.rd.1
  exact ⟨p,hp,(aH (by omega)).trans hc⟩
 ·have h5:=(aH (i:=n * 12+j) (v:=v) hne).trans h.box
  unfold av at h5 ⊢
  simpa only [List.length_set] using h5
theorem Ao {x:ao} {n:Nat} {v:Int} (h:q.pure.Small) (hx:q.procs[n]? =some x) (hv:(Lit.int .i64 v).wf=true):({ q with procs:=q.procs.set n { x with since:=v } } :af).pure.Small:=by
 have hp:=h.procs x.toaD (iu hx)
 refine ⟨by have h5:=h.dl; simpa [af.pure] using h5,h.fx,h.cD,h.cC,h.cb,h.dH,fun y hy=> ?_,h.aj,h.events,h.ag,h.ae,h.ai⟩
 obtain ⟨z,hz,rfl⟩:=List.mem_map.1 hy
 rcases List.mem_or_eq_of_mem_set hz with hz | rfl
 ·exact h.procs z.toaD (List.mem_map.2 ⟨z,hz,rfl⟩)
 ·exact ⟨hp.1,hp.2.1,hp.2.2.1,hv⟩
theorem Ax {x:ao} {n:Nat} {v:Int} (h:q.pure.Small) (hx:q.procs[n]? =some x):({ q with procs:=q.procs.set n { x with state:=v } } :af).pure.Small:=by
 have hp:=h.procs x.toaD (iu hx)
 refine ⟨by have h5:=h.dl; simpa [af.pure] using h5,h.fx,h.cD,h.cC,h.cb,h.dH,fun y hy=> ?_,h.aj,h.events,h.ag,h.ae,h.ai⟩
 obtain ⟨z,hz,rfl⟩:=List.mem_map.1 hy
 rcases List.mem_or_eq_of_mem_set hz with hz | rfl
 ·exact h.procs z.toaD (List.mem_map.2 ⟨z,hz,rfl⟩)
 ·exact ⟨hp.1,hp.2.1,hp.2.2.1,hp.2.2.2⟩
end
end Go.Proofs.YtkbcplnlehdjfaaGreat
namespace Go.Proofs.YtkbcplnlehdjfaaGreat
open Go.RowKit Go.Maps
attribute [local go_sem ↓] Go.wp_at_zero Go.wp_at_succ
theorem FL (r:Nat) (a:Option Addr) (len cap:Nat) (id:Int) (w:World) (hl:len≤1048576) (hid:cv id 1 6=true) (h:Rd r a len cap w):
  Calls Tryz.prog 159 #[.pointer (some ⟨r,0,none⟩),.int .i64 id] w fun e w'=> ∃ q:af,e= .returned (.agg q.cells)∧ap w' w.heap.size q∧q.pure.Small∧gG r w w'∧Rd r a len cap w':=by
 have hcall:=tJ id (w.alloc (.cells ar 32))
 simp only [hid,if_true,mn] at hcall
 have h5:=(Below.refl w.heap.size w).alloc (Nat.le_refl _) (.cells ar 32)
 have S:Hid (Rd r a len cap w∧Below w.heap.size w (w.alloc (.cells ar 32))∧(w.alloc (.cells ar 32)).heap[w.heap.size]? =some (.cells ar 32 (0,0))∧w.heap.size < (w.alloc (.cells ar 32)).heap.size):=⟨h,h5,heap_alloc_new _ _,by simp⟩
 clear h h5
 go_enter Tryz.func159,Tryz.ntmps159
 go_upto_region 1 with fail
 generalize w.alloc (.cells ar 32)=A at *
 go_wp2_with fail
 refine hcall.mono ?_
 clear hcall
 rintro e A2 ⟨rfl,hb⟩
 have hba:=(Below.refl A2.heap.size A2).alloc (Nat.le_refl _) (.cells #[.int .i64 id,.int .i64 1,.slice none 0 0,.slice none 0 0,.slice none 0 0,.slice none 0 0,.slice none 0 0,.slice none 0 0] 32)
 have HD:Hid (Dw r a len cap w A2.heap.size (⟨id,1,[],none,0,[],none,0,[],none,0,[],none,0,[],none,0,[],none,0⟩:af) (A2.alloc (.cells #[.int .i64 id,.int .i64 1,.slice none 0 0,.slice none 0 0,.slice none 0 0,.slice none 0 0,.slice none 0 0,.slice none 0 0] 32))):=by
  have hs:=hb.size
  have h6:=S.out.2.1.trans ((hb.trans (hba.mono hs)).mono S.out.2.1.size)
  exact ⟨S.out.1.below h6,S.out.1,gG.dI h6,(Ai (A2.alloc (.cells #[.int .i64 id,.int .i64 1,.slice none 0 0,.slice none 0 0,.slice none 0 0,.slice none 0 0,.slice none 0 0,.slice none 0 0] 32)) _).renum id 1,by simp [af.blocks,blk],EV hid,heap_alloc_new _ _,((hb.trans (hba.mono hs)).block _ S.out.2.2.2).trans S.out.2.2.1,by have:=S.out.2.2.2; omega⟩
 clear hba hb S
 go_upto_region 2 with fail
 generalize A2.alloc (.cells #[.int .i64 id,.int .i64 1,.slice none 0 0,.slice none 0 0,.slice none 0 0,.slice none 0 0,.slice none 0 0,.slice none 0 0] 32)=B at *
 generalize A2.heap.size=X at *
 generalize nu:(⟨id,1,[],none,0,[],none,0,[],none,0,[],none,0,[],none,0,[],none,0⟩:af)=q0 at *
 clear nu hid
 go_wp2_with fail
 go_loopw [7] (fun i wr=> ∃ (k:Int) (q:af),i= .int .i64 k∧1≤k∧k≤3∧Hid (Dw r a len cap w X q wr)) (fun i _=>(3 - Go.RowKit.intOf i).toNat)
 case atStart=>exact ⟨1,q0,rfl,by omega,by omega,HD⟩
 case round=>
  clear HD
  obtain ⟨k,q,rfl,k0,k1,HD⟩:=hrel
  have hwf:=pT (n:=k) (by omega) (by omega)
  have hwf2:=pT (n:=k+2) (by omega) (by omega)
  by_cases hk:k≤2
  ·skip
   go_upto_region 5 with fail
   go_cut [] from 18 to 30 (fun wx=> ∃ q2:af,Hid (Dw r a len cap w X q2 wx))
   case first=>
    replace HD:=aA (HD.out.reads (Below.refl _ _).drew)
    refine wp_region_held_drew (S:=fun _=>True) (by kernel_rfl) trivial (fun _=> ?_)
    generalize World.drew _=V at *
    refine tk 1 (v:= ?_) ?_ trivial ?_; rotate_left; (intro w0 hS0; go_simp; try with_reducible rfl); simp only [pt,sb,s0,s1]
    refine tk 2 (v:= ?_) ?_ trivial ?_; rotate_left; (intro w0 hS0; go_simp; try with_reducible rfl); simp only [pt,sb,s0,s1]
    refine tk 4 (v:= ?_) ?_ trivial ?_; rotate_left; (intro w0 hS0; go_simp; try with_reducible rfl); simp only [pt,sb,s0,s1]
    refine wpAnyH_ready (rs:= [0,3]) (by kernel_rfl) (by simp) ?_
    refine AllReadyH.cons rfl (fun K hK=> ?_) (AllReadyH.cons rfl (fun K hK=> ?_) AllReadyH.nil)
    focus
     simp only [List.getElem_toArray,List.getElem_cons_zero]
     rw [if_pos (by rfl)]
     refine wp_load_row 32 (.tmp 5) rfl X rfl 32 q.cells (0,0) _ HD.out.box Tryz.underlying32 rfl (by kernel_rfl) ?_
     refine hK.out _ _ trivial (fun _=> ?_)
     clear hK K
     try simp only [pt,sb,s0,s1]
     refine wpAnyH_ready (rs:= [3]) (by kernel_rfl) (by simp) ?_
     refine AllReadyH.cons rfl (fun K hK=> ?_) AllReadyH.nil
     simp only [List.getElem_toArray,List.getElem_cons_zero,List.getElem_cons_succ]
     rw [if_pos (by rfl)]
     go_wp2_with fail
     refine (dh r a len cap 2 _ hl (by omega) (by omega) HD.out.rd).mono ?_
     rintro e W1 ⟨u,ua,ub,rfl,hb1,hr1⟩
     replace HD:=aA (HD.out.drawn hb1 hr1)
     clear hb1 hr1
     refine hK.out _ _ trivial (fun _=> ?_)
     clear hK K
     try simp only [pt,sb,s0,s1]
     refine wpAnyH_ready (rs:= [5]) (by kernel_rfl) (by simp) ?_
     refine AllReadyH.cons rfl (fun K hK=> ?_) AllReadyH.nil
     simp only [List.getElem_toArray,List.getElem_cons_zero,List.getElem_cons_succ]
     rw [if_pos (by rfl)]
     go_wp2_with fail
     refine (dh r a len cap 2 _ hl (by omega) (by omega) HD.out.rd).mono ?_
     rintro e W2 ⟨v,va,vb,rfl,hb1,hr1⟩
     replace HD:=aA (HD.out.drawn hb1 hr1)
     clear hb1 hr1
     refine hK.out _ _ trivial (fun _=> ?_)
     clear hK K
     try simp only [pt,sb,s0,s1]
     refine tk 6 (v:= ?_) ?_ trivial ?_; rotate_left; (intro w0 hS0; go_simp; try with_reducible rfl); simp only [pt,sb,s0,s1]
     refine tk 7 (v:= ?_) ?_ trivial ?_; rotate_left; (intro w0 hS0; go_simp; try with_reducible rfl); simp only [pt,sb,s0,s1]
    rotate_left
    focus
     simp only [List.getElem_toArray,List.getElem_cons_zero,List.getElem_cons_succ]
     rw [if_pos (by rfl)]
     go_wp2_with fail
     refine (dh r a len cap 2 _ hl (by omega) (by omega) HD.out.rd).mono ?_
     rintro e W1 ⟨u,ua,ub,rfl,hb1,hr1⟩
     replace HD:=aA (HD.out.drawn hb1 hr1)
     clear hb1 hr1
     refine hK.out _ _ trivial (fun _=> ?_)
     clear hK K
     try simp only [pt,sb,s0,s1]
     refine wpAnyH_ready (rs:= [0,5]) (by kernel_rfl) (by simp) ?_
     refine AllReadyH.cons rfl (fun K hK=> ?_) (AllReadyH.cons rfl (fun K hK=> ?_) AllReadyH.nil)
     focus
      simp only [List.getElem_toArray,List.getElem_cons_zero]
      rw [if_pos (by rfl)]
      refine wp_load_row 32 (.tmp 5) rfl X rfl 32 q.cells (0,0) _ HD.out.box Tryz.underlying32 rfl (by kernel_rfl) ?_
      refine hK.out _ _ trivial (fun _=> ?_)
      clear hK K
      try simp only [pt,sb,s0,s1]
      refine wpAnyH_ready (rs:= [5]) (by kernel_rfl) (by simp) ?_
      refine AllReadyH.cons rfl (fun K hK=> ?_) AllReadyH.nil
      simp only [List.getElem_toArray,List.getElem_cons_zero,List.getElem_cons_succ]
      rw [if_pos (by rfl)]
      go_wp2_with fail
      refine (dh r a len cap 2 _ hl (by omega) (by omega) HD.out.rd).mono ?_
      rintro e W2 ⟨v,va,vb,rfl,hb1,hr1⟩
      replace HD:=aA (HD.out.drawn hb1 hr1)
      clear hb1 hr1
      refine hK.out _ _ trivial (fun _=> ?_)
      clear hK K
      try simp only [pt,sb,s0,s1]
      refine tk 6 (v:= ?_) ?_ trivial ?_; rotate_left; (intro w0 hS0; go_simp; try with_reducible rfl); simp only [pt,sb,s0,s1]
      refine tk 7 (v:= ?_) ?_ trivial ?_; rotate_left; (intro w0 hS0; go_simp; try with_reducible rfl); simp only [pt,sb,s0,s1]
     rotate_left
     focus
      simp only [List.getElem_toArray,List.getElem_cons_zero,List.getElem_cons_succ]
      rw [if_pos (by rfl)]
      go_wp2_with fail
      refine (dh r a len cap 2 _ hl (by omega) (by omega) HD.out.rd).mono ?_
      rintro e W2 ⟨v,va,vb,rfl,hb1,hr1⟩
      replace HD:=aA (HD.out.drawn hb1 hr1)
      clear hb1 hr1
      refine hK.out _ _ trivial (fun _=> ?_)
      clear hK K
      try simp only [pt,sb,s0,s1]
      refine tk 6 (v:= ?_) ?_ trivial ?_; rotate_left; (intro w0 hS0; go_simp; try with_reducible rfl); simp only [pt,sb,s0,s1]
      refine tk 7 (v:= ?_) ?_ trivial ?_; rotate_left; (intro w0 hS0; go_simp; try with_reducible rfl); simp only [pt,sb,s0,s1]
      refine wpAnyH_ready (rs:= [0]) (by kernel_rfl) (by simp) ?_
      refine AllReadyH.cons rfl (fun K hK=> ?_) AllReadyH.nil
      simp only [List.getElem_toArray,List.getElem_cons_zero]
      rw [if_pos (by rfl)]
      refine wp_load_row 32 (.tmp 5) rfl X rfl 32 q.cells (0,0) _ HD.out.box Tryz.underlying32 rfl (by kernel_rfl) ?_
      refine hK.out _ _ trivial (fun _=> ?_)
      clear hK K
      try simp only [pt,sb,s0,s1]
    all_goals
     refine wpAnyH_ready (rs:= [8]) (by kernel_rfl) (by simp) ?_
     refine AllReadyH.cons rfl (fun K hK=> ?_) AllReadyH.nil
     simp only [List.getElem_toArray,List.getElem_cons_zero,List.getElem_cons_succ]
     rw [if_pos (by rfl)]
     go_wp2_with fail
     refine (tF q ⟨k,u,_⟩ W2 (w.heap.size+1) hwf HD.out.small HD.out.own).mono ?_
     rintro e Wa ⟨q2,rfl,ho,hp,hb⟩
     have HB:=aA ((HD.out.reads hb).box)
     replace HD:=aA (HD.out.put hb ho (by rw [hp]; exact iR))
     clear hb ho hp
     refine hK.out _ _ trivial (fun _=> ?_)
     clear hK K
     refine tk 9 (v:= ?_) ?_ trivial ?_; rotate_left; (intro w0 hS0; go_simp; try with_reducible rfl); simp only [pt,sb,s0,s1]
     refine tk 10 (v:= ?_) ?_ trivial ?_; rotate_left; (intro w0 hS0; go_simp; try with_reducible rfl); simp only [pt,sb,s0,s1]
     refine tk 11 (v:= ?_) ?_ trivial ?_; rotate_left; (intro w0 hS0; go_simp; try with_reducible rfl); simp only [pt,sb,s0,s1]
     refine wpAnyH_ready (rs:= [12]) (by kernel_rfl) (by simp) ?_
     refine AllReadyH.cons rfl (fun K hK=> ?_) AllReadyH.nil
     simp only [List.getElem_toArray,List.getElem_cons_zero,List.getElem_cons_succ]
     rw [if_pos (by rfl)]
     refine wp_store_row 32 (.tmp 5) (.tmp 28) rfl X q2.cells rfl rfl _ _ HB.out (by kernel_rfl) rfl (by kernel_rfl) ?_
     refine hK.out _ _ trivial (fun _=> ?_)
     clear hK K
     refine wpAnyH_done (by kernel_rfl) ?_ _
     clear HB
     go_wp2_with fail
     go_meet
     exact ⟨q2,HD⟩
   case rest=>
    clear HD
    obtain ⟨qo,qP⟩: ∃ qo:af,qo=q:=⟨_,rfl⟩
    subst qP
    obtain ⟨q,HD⟩:=hcut
    have hcall:=rz q k _ (w.heap.size+1) hwf HD.out.small HD.out.own
    go_wp2_with (refine eT 5 X q.cells HD.out.box ?_)
    refine hcall.mono ?_
    clear hcall
    rintro e Wb1 ⟨q2,rfl,ho,hp,hb⟩
    have HB:=aA ((HD.out.reads hb).box)
    replace HD:=aA (HD.out.put hb ho (by rw [hp]; exact iR))
    clear hb ho hp
    go_upto_region 7 with (refine ec 5 34 (X) q2.cells HB.out ?_)
    generalize Wb1.setRow X q2.cells=Wc1 at *
    clear HB
    obtain ⟨qo,qP⟩: ∃ qo:af,qo=q:=⟨_,rfl⟩
    subst qP
    obtain ⟨q,qP⟩: ∃ q:af,q=q2:=⟨_,rfl⟩
    subst qP
    have hcall:=ra q k _ (w.heap.size+1) hwf HD.out.small HD.out.own
    go_wp2_with (refine eT 5 X q.cells HD.out.box ?_)
    refine hcall.mono ?_
    clear hcall
    rintro e Wb2 ⟨q2,rfl,ho,hp,hb⟩
    have HB:=aA ((HD.out.reads hb).box)
    replace HD:=aA (HD.out.put hb ho (by rw [hp]; exact iR))
    clear hb ho hp
    go_upto_region 8 with (refine ec 5 40 (X) q2.cells HB.out ?_)
    generalize Wb2.setRow X q2.cells=Wc2 at *
    clear HB
    obtain ⟨qo,qP⟩: ∃ qo:af,qo=q:=⟨_,rfl⟩
    subst qP
    obtain ⟨q,qP⟩: ∃ q:af,q=q2:=⟨_,rfl⟩
    subst qP
    go_upto_region 8 with fail
    simp only [pn]
    go_cut [] from 42 to 51 (fun wx=> ∃ q2:af,Hid (Dw r a len cap w X q2 wx))
    case first=>
     replace HD:=aA (HD.out.reads (Below.refl _ _).drew)
     refine wp_region_held_drew (S:=fun _=>True) (by kernel_rfl) trivial (fun _=> ?_)
     generalize World.drew _=V at *
     refine tk 1 (v:= ?_) ?_ trivial ?_; rotate_left; (intro w0 hS0; go_simp; try with_reducible rfl); simp only [pt,sb,s0,s1]
     refine tk 2 (v:= ?_) ?_ trivial ?_; rotate_left; (intro w0 hS0; go_simp; try with_reducible rfl); simp only [pt,sb,s0,s1]
     refine wpAnyH_ready (rs:= [0,3]) (by kernel_rfl) (by simp) ?_
     refine AllReadyH.cons rfl (fun K hK=> ?_) (AllReadyH.cons rfl (fun K hK=> ?_) AllReadyH.nil)
     focus
      simp only [List.getElem_toArray,List.getElem_cons_zero]
      rw [if_pos (by rfl)]
      refine wp_load_row 32 (.tmp 5) rfl X rfl 32 q.cells (0,0) _ HD.out.box Tryz.underlying32 rfl (by kernel_rfl) ?_
      refine hK.out _ _ trivial (fun _=> ?_)
      clear hK K
      try simp only [pt,sb,s0,s1]
      refine wpAnyH_ready (rs:= [3]) (by kernel_rfl) (by simp) ?_
      refine AllReadyH.cons rfl (fun K hK=> ?_) AllReadyH.nil
      simp only [List.getElem_toArray,List.getElem_cons_zero,List.getElem_cons_succ]
      rw [if_pos (by rfl)]
      go_wp2_with fail
      refine (dh r a len cap 2 _ hl (by omega) (by omega) HD.out.rd).mono ?_
      rintro e W2 ⟨u,ua,ub,rfl,hb1,hr1⟩
      replace HD:=aA (HD.out.drawn hb1 hr1)
      clear hb1 hr1
      refine hK.out _ _ trivial (fun _=> ?_)
      clear hK K
      try simp only [pt,sb,s0,s1]
      refine tk 4 (v:= ?_) ?_ trivial ?_; rotate_left; (intro w0 hS0; go_simp; try with_reducible rfl); simp only [pt,sb,s0,s1]
     rotate_left
     focus
      simp only [List.getElem_toArray,List.getElem_cons_zero,List.getElem_cons_succ]
      rw [if_pos (by rfl)]
      go_wp2_with fail
      refine (dh r a len cap 2 _ hl (by omega) (by omega) HD.out.rd).mono ?_
      rintro e W2 ⟨u,ua,ub,rfl,hb1,hr1⟩
      replace HD:=aA (HD.out.drawn hb1 hr1)
      clear hb1 hr1
      refine hK.out _ _ trivial (fun _=> ?_)
      clear hK K
      try simp only [pt,sb,s0,s1]
      refine tk 4 (v:= ?_) ?_ trivial ?_; rotate_left; (intro w0 hS0; go_simp; try with_reducible rfl); simp only [pt,sb,s0,s1]
      refine wpAnyH_ready (rs:= [0]) (by kernel_rfl) (by simp) ?_
      refine AllReadyH.cons rfl (fun K hK=> ?_) AllReadyH.nil
      simp only [List.getElem_toArray,List.getElem_cons_zero]
      rw [if_pos (by rfl)]
      refine wp_load_row 32 (.tmp 5) rfl X rfl 32 q.cells (0,0) _ HD.out.box Tryz.underlying32 rfl (by kernel_rfl) ?_
      refine hK.out _ _ trivial (fun _=> ?_)
      clear hK K
      try simp only [pt,sb,s0,s1]
     all_goals
      refine wpAnyH_ready (rs:= [5]) (by kernel_rfl) (by simp) ?_
      refine AllReadyH.cons rfl (fun K hK=> ?_) AllReadyH.nil
      simp only [List.getElem_toArray,List.getElem_cons_zero,List.getElem_cons_succ]
      rw [if_pos (by rfl)]
      go_wp2_with fail
      refine (qh q k _ W2 (w.heap.size+1) hwf HD.out.small HD.out.own).mono ?_
      rintro e Wa ⟨q2,rfl,ho,hp,hb⟩
      have HB:=aA ((HD.out.reads hb).box)
      replace HD:=aA (HD.out.put hb ho (by rw [hp]; exact iR))
      clear hb ho hp
      refine hK.out _ _ trivial (fun _=> ?_)
      clear hK K
      refine tk 6 (v:= ?_) ?_ trivial ?_; rotate_left; (intro w0 hS0; go_simp; try with_reducible rfl); simp only [pt,sb,s0,s1]
      refine tk 7 (v:= ?_) ?_ trivial ?_; rotate_left; (intro w0 hS0; go_simp; try with_reducible rfl); simp only [pt,sb,s0,s1]
      refine tk 8 (v:= ?_) ?_ trivial ?_; rotate_left; (intro w0 hS0; go_simp; try with_reducible rfl); simp only [pt,sb,s0,s1]
      refine wpAnyH_ready (rs:= [9]) (by kernel_rfl) (by simp) ?_
      refine AllReadyH.cons rfl (fun K hK=> ?_) AllReadyH.nil
      simp only [List.getElem_toArray,List.getElem_cons_zero,List.getElem_cons_succ]
      rw [if_pos (by rfl)]
      refine wp_store_row 32 (.tmp 5) (.tmp 49) rfl X q2.cells rfl rfl _ _ HB.out (by kernel_rfl) rfl (by kernel_rfl) ?_
      refine hK.out _ _ trivial (fun _=> ?_)
      clear hK K
      refine wpAnyH_done (by kernel_rfl) ?_ _
      clear HB
      go_wp2_with fail
      go_meet
      exact ⟨q2,HD⟩
    case rest=>
     clear HD
     obtain ⟨qo,qP⟩: ∃ qo:af,qo=q:=⟨_,rfl⟩
     subst qP
     obtain ⟨q,HD⟩:=hcut
     have hcall:=nd q ⟨⟨k,k == 1,true,2,[]⟩,none,0⟩ _ (w.heap.size+1) hwf HD.out.small HD.out.own
     go_wp2_with (refine eT 5 X q.cells HD.out.box ?_)
     refine hcall.mono ?_
     clear hcall
     rintro e Wb3 ⟨q2,rfl,ho,hp,hb⟩
     have HB:=aA ((HD.out.reads hb).box)
     replace HD:=aA (HD.out.put hb ho (by rw [hp]; exact iR))
     clear hb ho hp
     go_upto_region 10 with (refine ec 5 58 (X) q2.cells HB.out ?_)
     generalize Wb3.setRow X q2.cells=Wc3 at *
     clear HB
     obtain ⟨qo,qP⟩: ∃ qo:af,qo=q:=⟨_,rfl⟩
     subst qP
     obtain ⟨q,qP⟩: ∃ q:af,q=q2:=⟨_,rfl⟩
     subst qP
     have e2:IntKind.wrap .i64 (k+2)=k+2:=by rw [IntKind.wrap_i64]; omega
     have hcall:=nd q ⟨⟨k+2,k == 1,false,1,[]⟩,none,0⟩ _ (w.heap.size+1) hwf2 HD.out.small HD.out.own
     go_wp2_with (refine eT 5 X q.cells HD.out.box ?_)
     refine hcall.mono ?_
     clear hcall
     rintro e Wb4 ⟨q2,rfl,ho,hp,hb⟩
     have HB:=aA ((HD.out.reads hb).box)
     replace HD:=aA (HD.out.put hb ho (by rw [hp]; exact iR))
     clear hb ho hp
     go_upto_region 4 with (refine ec 5 68 (X) q2.cells HB.out ?_)
     generalize Wb4.setRow X q2.cells=Wc4 at *
     clear HB
     obtain ⟨qo,qP⟩: ∃ qo:af,qo=q:=⟨_,rfl⟩
     subst qP
     obtain ⟨q,qP⟩: ∃ q:af,q=q2:=⟨_,rfl⟩
     subst qP
     have e3:IntKind.wrap .i64 (k+1)=k+1:=by rw [IntKind.wrap_i64]; omega
     go_wp2_with fail
     go_roundw
     case rel=>exact ⟨k+1,q,rfl,by omega,by omega,HD⟩
     case measure=>simp [Go.RowKit.intOf]; omega
  clear hwf hwf2
  go_wp2_with fail
  refine (dh r a len cap 3 _ hl (by omega) (by omega) HD.out.rd).mono ?_
  rintro e W1 ⟨u,ua,ub,rfl,hb1,hr1⟩
  replace HD:=aA (HD.out.drawn hb1 hr1)
  clear hb1 hr1
  have e1:IntKind.wrap .i64 (1+u)=1+u:=by rw [IntKind.wrap_i64]; omega
  go_wp2_with fail
  go_loopw [8] (fun i wr=> ∃ (k:Int) (q:af),i= .int .i64 k∧0≤k∧k≤3∧Hid (Dw r a len cap w X q wr)) (fun i _=>(Go.RowKit.intOf i).toNat)
  case atStart=>exact ⟨1+u,q,rfl,by omega,by omega,HD⟩
  case round=>
   clear HD
   obtain ⟨qo,qP⟩: ∃ qo:af,qo=q:=⟨_,rfl⟩
   subst qP
   obtain ⟨ko,hko⟩: ∃ ko:Int,ko=k:=⟨_,rfl⟩
   subst hko
   obtain ⟨k,q,rfl,kz,kt,HD⟩:=hrel
   have hwf:=pT (n:=k) (by omega) (by omega)
   by_cases hk2:0 < k
   ·skip
    go_upto_region 14 with fail
    go_cut [] from 77 to 88 (fun wx=> ∃ q2:af,Hid (Dw r a len cap w X q2 wx))
    case first=>
     replace HD:=aA (HD.out.reads (Below.refl _ _).drew)
     refine wp_region_held_drew (S:=fun _=>True) (by kernel_rfl) trivial (fun _=> ?_)
     generalize World.drew _=V at *
     refine tk 1 (v:= ?_) ?_ trivial ?_; rotate_left; (intro w0 hS0; go_simp; try with_reducible rfl); simp only [pt,sb,s0,s1]
     refine tk 2 (v:= ?_) ?_ trivial ?_; rotate_left; (intro w0 hS0; go_simp; try with_reducible rfl); simp only [pt,sb,s0,s1]
     refine tk 5 (v:= ?_) ?_ trivial ?_; rotate_left; (intro w0 hS0; go_simp; try with_reducible rfl); simp only [pt,sb,s0,s1]
     refine wpAnyH_ready (rs:= [0,3]) (by kernel_rfl) (by simp) ?_
     refine AllReadyH.cons rfl (fun K hK=> ?_) (AllReadyH.cons rfl (fun K hK=> ?_) AllReadyH.nil)
     focus
      simp only [List.getElem_toArray,List.getElem_cons_zero]
      rw [if_pos (by rfl)]
      refine wp_load_row 32 (.tmp 5) rfl X rfl 32 q.cells (0,0) _ HD.out.box Tryz.underlying32 rfl (by kernel_rfl) ?_
      refine hK.out _ _ trivial (fun _=> ?_)
      clear hK K
      try simp only [pt,sb,s0,s1]
      refine wpAnyH_ready (rs:= [3]) (by kernel_rfl) (by simp) ?_
      refine AllReadyH.cons rfl (fun K hK=> ?_) AllReadyH.nil
      simp only [List.getElem_toArray,List.getElem_cons_zero,List.getElem_cons_succ]
      rw [if_pos (by rfl)]
      go_wp2_with fail
      refine (dh r a len cap 3 _ hl (by omega) (by omega) HD.out.rd).mono ?_
      rintro e W3 ⟨v,va,vb,rfl,hb1,hr1⟩
      replace HD:=aA (HD.out.drawn hb1 hr1)
      clear hb1 hr1
      refine hK.out _ _ trivial (fun _=> ?_)
      clear hK K
      try simp only [pt,sb,s0,s1]
      refine tk 4 (v:= ?_) ?_ trivial ?_; rotate_left; (intro w0 hS0; go_simp; try with_reducible rfl); simp only [pt,sb,s0,s1]
      refine wpAnyH_ready (rs:= [6]) (by kernel_rfl) (by simp) ?_
      refine AllReadyH.cons rfl (fun K hK=> ?_) AllReadyH.nil
      simp only [List.getElem_toArray,List.getElem_cons_zero,List.getElem_cons_succ]
      rw [if_pos (by rfl)]
      go_wp2_with fail
      refine (uz r a len cap _ hl HD.out.rd).mono ?_
      rintro e W2 ⟨g,c,os,rfl,hos,hpg⟩
      have HPG:=aA (And.intro hos hpg)
      replace HD:=aA (HD.out.drawn hpg.but hpg.rd)
      clear hos hpg
      refine hK.out _ _ trivial (fun _=> ?_)
      clear hK K
      try simp only [pt,sb,s0,s1]
     rotate_left
     focus
      simp only [List.getElem_toArray,List.getElem_cons_zero,List.getElem_cons_succ]
      rw [if_pos (by rfl)]
      go_wp2_with fail
      refine (dh r a len cap 3 _ hl (by omega) (by omega) HD.out.rd).mono ?_
      rintro e W3 ⟨v,va,vb,rfl,hb1,hr1⟩
      replace HD:=aA (HD.out.drawn hb1 hr1)
      clear hb1 hr1
      refine hK.out _ _ trivial (fun _=> ?_)
      clear hK K
      try simp only [pt,sb,s0,s1]
      refine tk 4 (v:= ?_) ?_ trivial ?_; rotate_left; (intro w0 hS0; go_simp; try with_reducible rfl); simp only [pt,sb,s0,s1]
      refine wpAnyH_ready (rs:= [0,6]) (by kernel_rfl) (by simp) ?_
      refine AllReadyH.cons rfl (fun K hK=> ?_) (AllReadyH.cons rfl (fun K hK=> ?_) AllReadyH.nil)
      focus
       simp only [List.getElem_toArray,List.getElem_cons_zero]
       rw [if_pos (by rfl)]
       refine wp_load_row 32 (.tmp 5) rfl X rfl 32 q.cells (0,0) _ HD.out.box Tryz.underlying32 rfl (by kernel_rfl) ?_
       refine hK.out _ _ trivial (fun _=> ?_)
       clear hK K
       try simp only [pt,sb,s0,s1]
       refine wpAnyH_ready (rs:= [6]) (by kernel_rfl) (by simp) ?_
       refine AllReadyH.cons rfl (fun K hK=> ?_) AllReadyH.nil
       simp only [List.getElem_toArray,List.getElem_cons_zero,List.getElem_cons_succ]
       rw [if_pos (by rfl)]
       go_wp2_with fail
       refine (uz r a len cap _ hl HD.out.rd).mono ?_
       rintro e W2 ⟨g,c,os,rfl,hos,hpg⟩
       have HPG:=aA (And.intro hos hpg)
       replace HD:=aA (HD.out.drawn hpg.but hpg.rd)
       clear hos hpg
       refine hK.out _ _ trivial (fun _=> ?_)
       clear hK K
       try simp only [pt,sb,s0,s1]
      rotate_left
      focus
       simp only [List.getElem_toArray,List.getElem_cons_zero,List.getElem_cons_succ]
       rw [if_pos (by rfl)]
       go_wp2_with fail
       refine (uz r a len cap _ hl HD.out.rd).mono ?_
       rintro e W2 ⟨g,c,os,rfl,hos,hpg⟩
       have HPG:=aA (And.intro hos hpg)
       replace HD:=aA (HD.out.drawn hpg.but hpg.rd)
       clear hos hpg
       refine hK.out _ _ trivial (fun _=> ?_)
       clear hK K
       try simp only [pt,sb,s0,s1]
       refine wpAnyH_ready (rs:= [0]) (by kernel_rfl) (by simp) ?_
       refine AllReadyH.cons rfl (fun K hK=> ?_) AllReadyH.nil
       simp only [List.getElem_toArray,List.getElem_cons_zero]
       rw [if_pos (by rfl)]
       refine wp_load_row 32 (.tmp 5) rfl X rfl 32 q.cells (0,0) _ HD.out.box Tryz.underlying32 rfl (by kernel_rfl) ?_
       refine hK.out _ _ trivial (fun _=> ?_)
       clear hK K
       try simp only [pt,sb,s0,s1]
     all_goals
      refine wpAnyH_ready (rs:= [7]) (by kernel_rfl) (by simp) ?_
      refine AllReadyH.cons rfl (fun K hK=> ?_) AllReadyH.nil
      simp only [List.getElem_toArray,List.getElem_cons_zero,List.getElem_cons_succ]
      rw [if_pos (by rfl)]
      go_wp2_with fail
      refine (sB q k _ (some ⟨g,0,none⟩) os c W2 (w.heap.size+1) hwf ⟨by have:=HPG.out.1; omega,fun o ho=>by have:=HPG.out.2.sz o ho; omega⟩ (by rw [← vP]; exact nP HPG.out.2.own) HD.out.small HD.out.own).mono ?_
      rintro e Wa ⟨q2,rfl,ho,hp,hb⟩
      have HB:=aA ((HD.out.reads hb).box)
      replace HD:=aA (HD.out.put hb ho (by rw [hp]; exact iR))
      clear hb ho hp
      refine hK.out _ _ trivial (fun _=> ?_)
      clear hK K
      refine tk 8 (v:= ?_) ?_ trivial ?_; rotate_left; (intro w0 hS0; go_simp; try with_reducible rfl); simp only [pt,sb,s0,s1]
      refine tk 9 (v:= ?_) ?_ trivial ?_; rotate_left; (intro w0 hS0; go_simp; try with_reducible rfl); simp only [pt,sb,s0,s1]
      refine tk 10 (v:= ?_) ?_ trivial ?_; rotate_left; (intro w0 hS0; go_simp; try with_reducible rfl); simp only [pt,sb,s0,s1]
      refine wpAnyH_ready (rs:= [11]) (by kernel_rfl) (by simp) ?_
      refine AllReadyH.cons rfl (fun K hK=> ?_) AllReadyH.nil
      simp only [List.getElem_toArray,List.getElem_cons_zero,List.getElem_cons_succ]
      rw [if_pos (by rfl)]
      refine wp_store_row 32 (.tmp 5) (.tmp 86) rfl X q2.cells rfl rfl _ _ HB.out (by kernel_rfl) rfl (by kernel_rfl) ?_
      refine hK.out _ _ trivial (fun _=> ?_)
      clear hK K
      refine wpAnyH_done (by kernel_rfl) ?_ _
      clear HB
      go_wp2_with fail
      go_meet
      exact ⟨q2,HD⟩
    case rest=>
     clear HD
     obtain ⟨qo,qP⟩: ∃ qo:af,qo=q:=⟨_,rfl⟩
     subst qP
     obtain ⟨q,HD⟩:=hcut
     go_wp2_with fail
     refine (jt r a len cap 3 _ hl (by omega) (by omega) HD.out.rd).mono ?_
     rintro e W4 ⟨b,rfl,hb1,hr1⟩
     replace HD:=aA (HD.out.drawn hb1 hr1)
     clear hb1 hr1
     have e3:IntKind.wrap .i64 (k - 1)=k - 1:=by rw [IntKind.wrap_i64]; omega
     cases b
     ·skip
      have hcall:=tK q k W4 (dV HD.out.small) (fun x hx=>(cY HD.out.small hx).1) HD.out.own.at
      go_wp2_with (refine eT 5 X q.cells HD.out.box ?_)
      refine hcall.mono ?_
      clear hcall
      rintro e Wb5 ⟨q2,rfl,ho,hp,hb⟩
      have HB:=aA ((HD.out.reads hb).box)
      replace HD:=aA (HD.out.put hb ho (by rw [hp]; exact wZ HD.out.small))
      clear hb ho hp
      go_upto_region 13 with (refine ec 5 95 (X) q2.cells HB.out ?_)
      generalize Wb5.setRow X q2.cells=Wc5 at *
      clear HB
      obtain ⟨qo,qP⟩: ∃ qo:af,qo=q:=⟨_,rfl⟩
      subst qP
      obtain ⟨q,qP⟩: ∃ q:af,q=q2:=⟨_,rfl⟩
      subst qP
      go_wp2_with fail
      go_roundw
      case rel=>exact ⟨k - 1,q,rfl,by omega,by omega,HD⟩
      case measure=>simp [Go.RowKit.intOf]; omega
     ·go_wp2_with fail
      go_roundw
      case rel=>exact ⟨k - 1,q,rfl,by omega,by omega,HD⟩
      case measure=>simp [Go.RowKit.intOf]; omega
   go_wp2_with (first | (refine eT 5 X q.cells HD.out.box ?_) | (refine ec 4 97 (w.heap.size) q.cells HD.out.mK ?_))
   refine gZ Tryz.results159 (w.heap.size) q.cells HD.out.mK ?_
   have hx:=HD.out.hx
   have hl:=HD.out.st.lt
   refine ⟨q,rfl,(HD.out.own.lower (by omega)).same fun g hg=>setRow_other _ _ _ _ (by have:=(HD.out.own.lt g hg).1; omega),HD.out.small,HD.out.but.setRow (Nat.le_refl _) _,⟨?_,HD.out.st.2.but (HD.out.but.setRow (Nat.le_refl _) _)⟩⟩
   obtain ⟨p,hp,hc⟩:=HD.out.rd.1
   exact ⟨p,hp,(setRow_other _ _ _ _ (by omega)).trans hc⟩
end Go.Proofs.YtkbcplnlehdjfaaGreat
