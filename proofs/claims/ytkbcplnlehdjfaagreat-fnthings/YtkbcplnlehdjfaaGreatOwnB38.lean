/- What the proof leans on, part 38: TkOp, TkTick. -/
import Derived.Test.YtkbcplnlehdjfaaGreatOwnB19
import Derived.Test.YtkbcplnlehdjfaaGreatOwnB31
import Derived.Test.YtkbcplnlehdjfaaGreatOwnB33
import Derived.Test.YtkbcplnlehdjfaaGreatOwnB34
import Derived.Test.YtkbcplnlehdjfaaGreatOwnB35
import Derived.Test.YtkbcplnlehdjfaaGreatOwnB37
import Derived.Laws.Rows
import Derived.Deep.Cut
set_option maxRecDepth 100000
set_option maxHeartbeats 8000000

namespace Go.Proofs.YtkbcplnlehdjfaaGreat
open Go.RowKit Go.Maps
attribute [local go_sem ↓] Go.wp_at_zero Go.wp_at_succ
theorem opP_1 {now:Int} {x:aD} {o:dN} {p:aE} (h:o.1=1):lX now x o p=GY x o p:=by unfold lX; simp [h]
theorem opP_2 {now:Int} {x:aD} {o:dN} {p:aE} (h:o.1=2):lX now x o p=kC 2 0 rM (now+o.2.1) x.id p:=by unfold lX; simp [h]
theorem opP_3 {now:Int} {x:aD} {o:dN} {p:aE} (h:o.1=3):lX now x o p=mh o now x.id p:=by unfold lX; simp [h]
theorem opP_4 {now:Int} {x:aD} {o:dN} {p:aE} (h:o.1=4):lX now x o p=gJ o x.id p:=by unfold lX; simp [h]
theorem opP_5 {now:Int} {x:aD} {o:dN} {p:aE} (h:o.1=5):lX now x o p=dE o now x.id p:=by unfold lX; simp [h]
theorem opP_6 {now:Int} {x:aD} {o:dN} {p:aE} (h:o.1=6):lX now x o p=dE o now x.id p:=by unfold lX; simp [h]
theorem opP_7 {now:Int} {x:aD} {o:dN} {p:aE} (h:o.1=7):lX now x o p=dE o now x.id p:=by unfold lX; simp [h]
theorem opP_8 {now:Int} {x:aD} {o:dN} {p:aE} (h:o.1=8):lX now x o p=lc o now x.id p:=by unfold lX; simp [h]
theorem opP_9 {now:Int} {x:aD} {o:dN} {p:aE} (h:o.1=9):lX now x o p=ka o now x.id p:=by unfold lX; simp [h]
theorem opP_10 {now:Int} {x:aD} {o:dN} {p:aE} (h:o.1=10):lX now x o p=dC o now x.id p:=by unfold lX; simp [h]
theorem opP_11 {now:Int} {x:aD} {o:dN} {p:aE} (h:o.1=11):lX now x o p=dC o now x.id p:=by unfold lX; simp [h]
theorem opP_12 {now:Int} {x:aD} {o:dN} {p:aE} (h:o.1=12):lX now x o p=dC o now x.id p:=by unfold lX; simp [h]
theorem opP_13 {now:Int} {x:aD} {o:dN} {p:aE} (h:o.1=13):lX now x o p=ig o x.id p:=by unfold lX; simp [h]
theorem opP_14 {now:Int} {x:aD} {o:dN} {p:aE} (h:o.1=14):lX now x o p=gC o x.id p:=by unfold lX; simp [h]
theorem opP_15 {now:Int} {x:aD} {o:dN} {p:aE} (h:o.1=15):lX now x o p=jU o x.id p:=by unfold lX; simp [h]
theorem opP_16 {now:Int} {x:aD} {o:dN} {p:aE} (h:o.1=16):lX now x o p=lg o x.id p:=by unfold lX; simp [h]
theorem opP_17 {now:Int} {x:aD} {o:dN} {p:aE} (h:o.1=17):lX now x o p= { p with procs:=ce x.id (fun y=> { y with pc:=0 }) p.procs } :=by unfold lX; simp [h]
theorem nR (w:World) (o:Obj):(w.alloc o).heap.size=w.heap.size+1:=by simp
theorem Fr.more {w W:World} {M M2 base:Nat} {q0 z q:af} (h:Fr w M base q0 z q W) (hq: ∀ g∈q.blocks,g∈q0.blocks) (hM:M≤M2∧M2≤W.heap.size):Fr w M2 base q0 z q W:=⟨h.box,h.own,h.kept,fun g hg=> .inl (hq g hg),h.lo,by have:=h.sz; omega,hM.2,h.sz.2.2⟩
theorem G6 (q:af) (n base:Nat) (x:ao) (now:Int) (w:World) (h:ap w base q) (hb:base≤w.heap.size) (hr:aQ q.pure) (hx:q.procs[n]? =some x) (hs:x.state=1) (hn:q.next≤999999990) (eu:0≤now∧now≤1000000000):
  Calls Tryz.prog 222 #[.agg q.cells,.int .i64 n,.int .i64 now] w (jH w base q (lX now x.toaD (opAt x.toaD) q.pure)):=by
 have ho:=(AW (now:=now) hr (iu hx) hs hn eu).1
 have k1:=(hr.proc (iu hx)).2.1
 have hop:=iT k1 (by rw [show x.toaD.state=1 from hs]; decide)
 have hlen:x.prog.length≤20:=by have h5:=iF k1; unfold jY at h5; simp only [Bool.and_eq_true] at h5; exact (lK h5.1.1.1.2).2
 obtain ⟨k,hk⟩: ∃ k:Nat,x.pc=(k:Int):=⟨x.pc.toNat,by have:=hop.1; omega⟩
 have hkl:k < x.prog.length:=by have:=hop.2; have e:x.toaD.pc=x.pc:=rfl; omega
 have hoa:x.prog[k]? =some (opAt x.toaD):=by unfold opAt; rw [show x.toaD.pc.toNat=k by rw [show x.toaD.pc=(k:Int) from hk]; rfl,List.getElem?_eq_getElem hkl]; rfl
 have hl:x.left=x.toaD.left:=rfl
 have hlb:(opAt x.toaD).1=1→0≤x.left∧x.left < (opAt x.toaD).2.1:=fun e=>by
  rw [fG,Bool.and_eq_true] at k1
  have h3:=k1.2
  unfold bO at h3
  rw [if_neg (by rw [show x.toaD.state=1 from hs]; decide),if_pos hs] at h3
  simp only [Bool.and_eq_true] at h3
  have h4:=h3.1.1.1.2
  unfold jJ at h4
  rw [if_pos e] at h4
  simp only [Bool.and_eq_true,decide_eq_true_eq] at h4
  exact h4
 generalize opAt x.toaD=o at *
 have HR:Hid (aQ q.pure∧q.procs[n]? =some x∧x.state=1∧q.next≤999999990∧(0≤now∧now≤1000000000)∧kc o=true∧x.prog[k]? =some o∧(o.1=1→0≤x.left∧x.left < o.2.1)):=⟨hr,hx,hs,hn,eu,ho,hoa,hlb⟩
 have b1:=dT w (.cells q.cells 32) (.cells ar 32)
 have h2:=cZ w (.cells q.cells 32) (.cells ar 32)
 have S:Hid (Fr w (w.heap.size+2) base q q q ((w.alloc (.cells q.cells 32)).alloc (.cells ar 32))∧((w.alloc (.cells q.cells 32)).alloc (.cells ar 32)).heap[w.heap.size+1]? =some (.cells ar 32 (0,0))∧((w.alloc (.cells q.cells 32)).alloc (.cells ar 32)).heap.size=w.heap.size+2):=⟨Fr.start h hb h2.1 b1 ⟨by omega,by have:=(Array.getElem?_eq_some_iff.1 h2.2).1; omega⟩,h2.2,by rw [nR,nR]⟩
 have j0:(0:Int)≤(n:Int):=by omega
 have j1:(n:Int) < (q.procs.length:Int):=by have:=(List.getElem?_eq_some_iff.1 hx).1; omega
 have j2:(0:Int)≤(k:Int):=by omega
 have j3:(k:Int) < (x.prog.length:Int):=by omega
 obtain ⟨n0,n1⟩:=eu
 have HK:Hid (x.pc=(k:Int)):=hk
 clear h hb hr hx hs hn b1 h2 ho hop hlen hkl hoa hlb hl hk k1
 go_enter Tryz.func222,Tryz.ntmps222
 go_upto_region 1 with fail
 generalize (w.alloc (.cells q.cells 32)).alloc (.cells ar 32)=A at *
 obtain ⟨gs,ha,hat⟩:=cn S.out.1.own.at.1 HR.out.2.1
 have m2:=S.out.1.box.cells.2.2.1
 rw [ha] at m2
 obtain ⟨d0,d1,d2,d3,d4,d5,d6,d7,d8,d9,tH,tS⟩:=hat
 have HA:Hid (q.aN=some ⟨gs,0,none⟩):=ha
 clear ha
 have h5:=(Below.refl A.heap.size A).alloc (Nat.le_refl _) (.cells x.row 43)
 have hxb:=heap_alloc_new A (.cells x.row 43)
 have hsz:=S.out.2.2
 rw [hsz] at hxb
 have h6:=S.out.1.reads h5
 have S2:=aA (And.intro h6.1 (And.intro ((h6.2 (w.heap.size+1) (by omega)).trans S.out.2.1) (And.intro hxb (show (A.alloc (.cells x.row 43)).heap.size=w.heap.size+3 by rw [nR,hsz]))))
 have HSZ:Hid (A.heap.size=w.heap.size+2):=hsz
 clear h5 h6 hxb hsz S
 go_upto_region 2 with fail
 rw [HSZ.out]
 generalize A.alloc (.cells x.row 43)=B at *
 clear m2 d0 d1 d2 d3 d4 d5 d6 d7 d8 d9 tH tS HSZ
 obtain ⟨-,-,x2,-,x4,x5,-⟩:=bo (x:=x) S2.out.2.2.1
 rw [HK.out] at x4
 obtain ⟨gq,hgq,hoc⟩:=Kind.bU.at (K:=fk) ⟨lA S2.out.1.own.at.1 HR.out.2.1,by simp [fk]⟩ HR.out.2.2.2.2.2.2.1
 rw [hgq] at x2
 have o0:=hoc 0 _ rfl
 have o1:=hoc 1 _ rfl
 have o2:=hoc 2 _ rfl
 have o3:=hoc 3 _ rfl
 rw [show fk.n=4 from rfl] at o0 o1 o2 o3
 simp only [Nat.add_zero] at o0
 have h5:=(Below.refl B.heap.size B).alloc (Nat.le_refl _) (.cells (j9 o) 134)
 have hob:=heap_alloc_new B (.cells (j9 o) 134)
 have hsz:=S2.out.2.2.2
 rw [hsz] at hob
 have h6:=S2.out.1.reads h5
 have S:=aA (And.intro (h6.1.more (M2:=w.heap.size+4) (fun g hg=>hg) ⟨by omega,by rw [nR,hsz]; omega⟩) (And.intro ((h6.2 (w.heap.size+1) (by omega)).trans S2.out.2.1) (And.intro ((h5.block (w.heap.size+2) (by omega)).trans S2.out.2.2.1) hob)))
 have HSZ:Hid (B.heap.size=w.heap.size+3):=hsz
 clear h5 h6 hob hsz S2 hgq hoc
 unfold j9 at S
 go_upto_region 3 with fail
 rw [HSZ.out]
 generalize B.alloc (.cells #[.int .i64 o.1,.int .i64 o.2.1,.int .i64 o.2.2.1,.string o.2.2.2] 134)=C at *
 clear o0 o1 o2 o3 x2 x4 x5 j2 j3 HSZ
 have HO:Hid (oo C (w.heap.size+3) o):=S.out.2.2.2
 obtain ⟨-,-,-,-,-,x5,-⟩:=bo (x:=x) S.out.2.2.1
 obtain ⟨f0,f1,f2,f3,f4⟩:=dv HR.out.2.2.2.2.2.1
 have hM:=bz.1 f2
 obtain ⟨kd,N,M,s⟩:=o
 simp only at f0 f1 hM
 obtain ⟨o0,o1,o2,o3⟩:=HO.out.cells
 simp only at o0 o1 o2 o3
 clear f2 f3 f4
 have zN:Hid (kd=1∨kd=2∨kd=3∨kd=4∨kd=5∨kd=6∨kd=7∨kd=8∨kd=9∨kd=10∨kd=11∨kd=12∨kd=13∨kd=14∨kd=15∨kd=16∨kd=17):=by show _∨_; omega
 clear f0
 rcases zN.out with rfl | rfl | rfl | rfl | rfl | rfl | rfl | rfl | rfl | rfl | rfl | rfl | rfl | rfl | rfl | rfl | rfl
 focus
  have hlb:=HR.out.2.2.2.2.2.2.2 rfl
  simp only at hlb
  have hN:=f1 (by decide)
  clear f1 zN
  have HE:=aA (opP_1 (now:=now) (x:=x.toaD) (o:=(1,N,M,s)) (p:=q.pure) rfl)
  have IC:Hid (lX now x.toaD (1,N,M,s) q.pure=if (if x.left=0 then N else x.left)=1 then bu 0 x.id q.pure else { q.pure with procs:=ce x.id (fun y=> { y with left:=(if x.left=0 then N else x.left) - 1 }) q.pure.procs }):=HE.out
  clear HE
  obtain ⟨lf,hlf⟩: ∃ lf:Int,lf=if x.left=0 then N else x.left:=⟨_,rfl⟩
  rw [← hlf] at IC
  have hlb2:1≤lf∧lf≤1000:=by rw [hlf]; split <;> omega
  have HL:Hid (1≤lf∧lf≤1000):=hlb2
  go_upto_region 5 with fail
  clear o0
  have hgo: ∀ e0:Bool,(x.left == 0)=e0→lf=if e0 then N else x.left:=fun e0 he=>by rw [hlf]; subst he; by_cases h7:x.left=0 <;> simp [h7]
  cases e0:(x.left == 0)
  ·have hv:=hgo _ e0
   simp only [Bool.false_eq_true,if_false] at hv
   clear hgo hlf hlb hlb2 hN
   by_cases h1:lf=1
   ·have e1:(x.left == 1)=true:=by rw [← hv]; simp [h1]
    have HE:Hid (lX now x.toaD (1,N,M,s) q.pure=bu 0 x.id q.pure):=IC.out.trans (if_pos h1)
    have hcall:=bB (n:=n) 0 S.out.1.own (by have:=S.out.1.sz; omega) HR.out.1 HR.out.2.1 (by rw [HR.out.2.2.1]; decide)
    clear h1 hv IC HL
    go_wp2_with (refine eT 3 w.heap.size q.cells S.out.1.box ?_)
    refine hcall.mono ?_
    clear hcall
    rintro e D ⟨q2,rfl,hp2,ht⟩
    have h5:=S.out.1.call ht
    have H5:=aA (And.intro h5.1 ((h5.2 (w.heap.size+1) (by omega) (by omega)).trans S.out.2.1))
    have HP:Hid (q2.pure=_):=hp2
    clear hp2 ht h5
    go_wp2_with (refine ec 6 35 (w.heap.size+1) q2.cells H5.out.2 ?_)
    refine gZ Tryz.results222 (w.heap.size+1) q2.cells H5.out.2 ?_
    exact ⟨q2,rfl,HP.out.trans HE.out.symm,H5.out.1.mK (by omega) (by omega) _⟩
   have e1:(x.left == 1)=false:=by rw [← hv]; simp [h1]
   have HE:Hid (lX now x.toaD (1,N,M,s) q.pure= { q.pure with procs:=ce x.id (fun y=> { y with left:=lf - 1 }) q.pure.procs }):=IC.out.trans (if_neg h1)
   have hw:IntKind.wrap .i64 (x.left - 1)=x.left - 1:=by rw [IntKind.wrap_i64]; have:=HL.out; omega
   have HV:Hid (lf=x.left):=hv
   obtain ⟨s1,⟨u,c⟩,f⟩:=eY (n:=n) (j:=5) (v:= .int .i64 (x.left - 1)) (y:= { x with left:=x.left - 1 }) S.out.1.own HR.out.2.1 HA.out ⟨rfl,rfl,rfl⟩ (by decide) rfl
   have m2:=S.out.1.box.cells.2.2.1
   rw [HA.out] at m2
   have h5:=S.out.1.call s1
   have H5:=aA (And.intro h5.1 ((h5.2 (w.heap.size+1) (by omega) (by omega)).trans S.out.2.1))
   clear h1 hv IC s1 h5
   go_upto_region 11 with fail
   generalize C.setCell ⟨gs,n * 12+5,none⟩ (.int .i64 (x.left - 1))=D at *
   clear m2 c f u hw
   have HP:Hid (({ q with procs:=q.procs.set n { x with left:=x.left - 1 } } :af).pure= { q.pure with procs:=ce x.id (fun y=> { y with left:=lf - 1 }) q.pure.procs }):=by rw [HV.out]; exact g7 (nx:=q.next) HR.out.1.kW HR.out.2.1 rfl
   go_wp2_with (first | (refine eT 3 w.heap.size q.cells H5.out.1.box ?_) | (refine ec 6 43 (w.heap.size+1) q.cells H5.out.2 ?_))
   refine gZ Tryz.results222 (w.heap.size+1) q.cells H5.out.2 ?_
   exact ⟨_,congrArg (fun c=>Ending.returned (.agg c)) (jd (nx:=q.next)).symm,HP.out.trans HE.out.symm,H5.out.1.mK (by omega) (by omega) _⟩
  ·have hv:=hgo _ e0
   simp only [if_true] at hv
   clear hgo hlf hlb hlb2 hN
   by_cases h1:lf=1
   ·have e1:(N == 1)=true:=by rw [← hv]; simp [h1]
    have HE:Hid (lX now x.toaD (1,N,M,s) q.pure=bu 0 x.id q.pure):=IC.out.trans (if_pos h1)
    have hcall:=bB (n:=n) 0 S.out.1.own (by have:=S.out.1.sz; omega) HR.out.1 HR.out.2.1 (by rw [HR.out.2.2.1]; decide)
    clear h1 hv IC HL
    go_wp2_with (refine eT 3 w.heap.size q.cells S.out.1.box ?_)
    refine hcall.mono ?_
    clear hcall
    rintro e D ⟨q2,rfl,hp2,ht⟩
    have h5:=S.out.1.call ht
    have H5:=aA (And.intro h5.1 ((h5.2 (w.heap.size+1) (by omega) (by omega)).trans S.out.2.1))
    have HP:Hid (q2.pure=_):=hp2
    clear hp2 ht h5
    go_wp2_with (refine ec 6 35 (w.heap.size+1) q2.cells H5.out.2 ?_)
    refine gZ Tryz.results222 (w.heap.size+1) q2.cells H5.out.2 ?_
    exact ⟨q2,rfl,HP.out.trans HE.out.symm,H5.out.1.mK (by omega) (by omega) _⟩
   have e1:(N == 1)=false:=by rw [← hv]; simp [h1]
   have HE:Hid (lX now x.toaD (1,N,M,s) q.pure= { q.pure with procs:=ce x.id (fun y=> { y with left:=lf - 1 }) q.pure.procs }):=IC.out.trans (if_neg h1)
   have hw:IntKind.wrap .i64 (N - 1)=N - 1:=by rw [IntKind.wrap_i64]; have:=HL.out; omega
   have HV:Hid (lf=N):=hv
   obtain ⟨s1,⟨u,c⟩,f⟩:=eY (n:=n) (j:=5) (v:= .int .i64 (N - 1)) (y:= { x with left:=N - 1 }) S.out.1.own HR.out.2.1 HA.out ⟨rfl,rfl,rfl⟩ (by decide) rfl
   have m2:=S.out.1.box.cells.2.2.1
   rw [HA.out] at m2
   have h5:=S.out.1.call s1
   have H5:=aA (And.intro h5.1 ((h5.2 (w.heap.size+1) (by omega) (by omega)).trans S.out.2.1))
   clear h1 hv IC s1 h5
   go_upto_region 11 with fail
   generalize C.setCell ⟨gs,n * 12+5,none⟩ (.int .i64 (N - 1))=D at *
   clear m2 c f u hw
   have HP:Hid (({ q with procs:=q.procs.set n { x with left:=N - 1 } } :af).pure= { q.pure with procs:=ce x.id (fun y=> { y with left:=lf - 1 }) q.pure.procs }):=by rw [HV.out]; exact g7 (nx:=q.next) HR.out.1.kW HR.out.2.1 rfl
   go_wp2_with (first | (refine eT 3 w.heap.size q.cells H5.out.1.box ?_) | (refine ec 6 43 (w.heap.size+1) q.cells H5.out.2 ?_))
   refine gZ Tryz.results222 (w.heap.size+1) q.cells H5.out.2 ?_
   exact ⟨_,congrArg (fun c=>Ending.returned (.agg c)) (jd (nx:=q.next)).symm,HP.out.trans HE.out.symm,H5.out.1.mK (by omega) (by omega) _⟩
 focus
  have hN:=f1 (by decide)
  have HE:=aA (opP_2 (now:=now) (x:=x.toaD) (o:=(2,N,M,s)) (p:=q.pure) rfl)
  have hcall:=sT q n base x 2 0 N now ⟨#[]⟩ C S.out.1.own (by have:=S.out.1.sz; omega) HR.out.1 HR.out.2.1 (by have:=HR.out.2.2.2.1; omega) HR.out.2.2.2.2.1 ⟨by omega,hN.2⟩
  rw [show kZ now N=now+N by unfold kZ; rw [if_pos (by omega)]] at hcall
  clear f1 zN hN hM
  go_wp2_with (refine eT 3 w.heap.size q.cells S.out.1.box ?_)
  refine hcall.mono ?_
  clear hcall
  rintro e D ⟨q2,rfl,hp2,ht⟩
  have h5:=S.out.1.call ht
  have H5:=aA (And.intro h5.1 ((h5.2 (w.heap.size+1) (by omega) (by omega)).trans S.out.2.1))
  have HP:Hid (q2.pure=_):=hp2
  clear hp2 ht h5
  go_wp2_with (refine ec 6 51 (w.heap.size+1) q2.cells H5.out.2 ?_)
  refine gZ Tryz.results222 (w.heap.size+1) q2.cells H5.out.2 ?_
  exact ⟨q2,rfl,HP.out.trans HE.out.symm,H5.out.1.mK (by omega) (by omega) _⟩
 focus
  have HE:=aA (opP_3 (now:=now) (x:=x.toaD) (o:=(3,N,M,s)) (p:=q.pure) rfl)
  have hcall:=CR q n base x now (3,N,M,s) C S.out.1.own (by have:=S.out.1.sz; omega) HR.out.1 HR.out.2.1 HR.out.2.2.1 HR.out.2.2.2.1 HR.out.2.2.2.2.1 HR.out.2.2.2.2.2.1 rfl
  clear f1 zN hM
  go_wp2_with (first | (refine eT 3 w.heap.size q.cells S.out.1.box ?_) | (refine wpList_load_row rfl 134 (.tmp 8) rfl (w.heap.size+3) (by rfl) 134 (j9 (3,N,M,s)) (0,0) _ S.out.2.2.2 Tryz.underlying134 rfl (by kernel_rfl) ?_))
  refine hcall.mono ?_
  clear hcall
  rintro e D ⟨q2,rfl,hp2,ht⟩
  have h5:=S.out.1.call ht
  have H5:=aA (And.intro h5.1 ((h5.2 (w.heap.size+1) (by omega) (by omega)).trans S.out.2.1))
  have HP:Hid (q2.pure=_):=hp2
  clear hp2 ht h5
  go_wp2_with (refine ec 6 62 (w.heap.size+1) q2.cells H5.out.2 ?_)
  refine gZ Tryz.results222 (w.heap.size+1) q2.cells H5.out.2 ?_
  exact ⟨q2,rfl,HP.out.trans HE.out.symm,H5.out.1.mK (by omega) (by omega) _⟩
 focus
  have HE:=aA (opP_4 (now:=now) (x:=x.toaD) (o:=(4,N,M,s)) (p:=q.pure) rfl)
  have hcall:=zE q n base x now (4,N,M,s) C S.out.1.own (by have:=S.out.1.sz; omega) HR.out.1 HR.out.2.1 HR.out.2.2.1 HR.out.2.2.2.1 HR.out.2.2.2.2.1 HR.out.2.2.2.2.2.1 rfl
  clear f1 zN hM
  go_wp2_with (first | (refine eT 3 w.heap.size q.cells S.out.1.box ?_) | (refine wpList_load_row rfl 134 (.tmp 8) rfl (w.heap.size+3) (by rfl) 134 (j9 (4,N,M,s)) (0,0) _ S.out.2.2.2 Tryz.underlying134 rfl (by kernel_rfl) ?_))
  refine hcall.mono ?_
  clear hcall
  rintro e D ⟨q2,rfl,hp2,ht⟩
  have h5:=S.out.1.call ht
  have H5:=aA (And.intro h5.1 ((h5.2 (w.heap.size+1) (by omega) (by omega)).trans S.out.2.1))
  have HP:Hid (q2.pure=_):=hp2
  clear hp2 ht h5
  go_wp2_with (refine ec 6 62 (w.heap.size+1) q2.cells H5.out.2 ?_)
  refine gZ Tryz.results222 (w.heap.size+1) q2.cells H5.out.2 ?_
  exact ⟨q2,rfl,HP.out.trans HE.out.symm,H5.out.1.mK (by omega) (by omega) _⟩
 focus
  have HE:=aA (opP_5 (now:=now) (x:=x.toaD) (o:=(5,N,M,s)) (p:=q.pure) rfl)
  have hcall:=Ey q n base x now (5,N,M,s) C S.out.1.own (by have:=S.out.1.sz; omega) HR.out.1 HR.out.2.1 HR.out.2.2.1 HR.out.2.2.2.1 HR.out.2.2.2.2.1 HR.out.2.2.2.2.2.1 rfl
  clear f1 zN hM
  go_wp2_with (first | (refine eT 3 w.heap.size q.cells S.out.1.box ?_) | (refine wpList_load_row rfl 134 (.tmp 8) rfl (w.heap.size+3) (by rfl) 134 (j9 (5,N,M,s)) (0,0) _ S.out.2.2.2 Tryz.underlying134 rfl (by kernel_rfl) ?_))
  refine hcall.mono ?_
  clear hcall
  rintro e D ⟨q2,rfl,hp2,ht⟩
  have h5:=S.out.1.call ht
  have H5:=aA (And.intro h5.1 ((h5.2 (w.heap.size+1) (by omega) (by omega)).trans S.out.2.1))
  have HP:Hid (q2.pure=_):=hp2
  clear hp2 ht h5
  go_wp2_with (refine ec 6 62 (w.heap.size+1) q2.cells H5.out.2 ?_)
  refine gZ Tryz.results222 (w.heap.size+1) q2.cells H5.out.2 ?_
  exact ⟨q2,rfl,HP.out.trans HE.out.symm,H5.out.1.mK (by omega) (by omega) _⟩
 focus
  have HE:=aA (opP_6 (now:=now) (x:=x.toaD) (o:=(6,N,M,s)) (p:=q.pure) rfl)
  have hcall:=Ab q n base x now (6,N,M,s) C S.out.1.own (by have:=S.out.1.sz; omega) HR.out.1 HR.out.2.1 HR.out.2.2.1 HR.out.2.2.2.1 HR.out.2.2.2.2.1 HR.out.2.2.2.2.2.1 rfl
  clear f1 zN hM
  go_wp2_with (first | (refine eT 3 w.heap.size q.cells S.out.1.box ?_) | (refine wpList_load_row rfl 134 (.tmp 8) rfl (w.heap.size+3) (by rfl) 134 (j9 (6,N,M,s)) (0,0) _ S.out.2.2.2 Tryz.underlying134 rfl (by kernel_rfl) ?_))
  refine hcall.mono ?_
  clear hcall
  rintro e D ⟨q2,rfl,hp2,ht⟩
  have h5:=S.out.1.call ht
  have H5:=aA (And.intro h5.1 ((h5.2 (w.heap.size+1) (by omega) (by omega)).trans S.out.2.1))
  have HP:Hid (q2.pure=_):=hp2
  clear hp2 ht h5
  go_wp2_with (refine ec 6 62 (w.heap.size+1) q2.cells H5.out.2 ?_)
  refine gZ Tryz.results222 (w.heap.size+1) q2.cells H5.out.2 ?_
  exact ⟨q2,rfl,HP.out.trans HE.out.symm,H5.out.1.mK (by omega) (by omega) _⟩
 focus
  have HE:=aA (opP_7 (now:=now) (x:=x.toaD) (o:=(7,N,M,s)) (p:=q.pure) rfl)
  have hcall:=BE q n base x now (7,N,M,s) C S.out.1.own (by have:=S.out.1.sz; omega) HR.out.1 HR.out.2.1 HR.out.2.2.1 HR.out.2.2.2.1 HR.out.2.2.2.2.1 HR.out.2.2.2.2.2.1 rfl
  clear f1 zN hM
  go_wp2_with (first | (refine eT 3 w.heap.size q.cells S.out.1.box ?_) | (refine wpList_load_row rfl 134 (.tmp 8) rfl (w.heap.size+3) (by rfl) 134 (j9 (7,N,M,s)) (0,0) _ S.out.2.2.2 Tryz.underlying134 rfl (by kernel_rfl) ?_))
  refine hcall.mono ?_
  clear hcall
  rintro e D ⟨q2,rfl,hp2,ht⟩
  have h5:=S.out.1.call ht
  have H5:=aA (And.intro h5.1 ((h5.2 (w.heap.size+1) (by omega) (by omega)).trans S.out.2.1))
  have HP:Hid (q2.pure=_):=hp2
  clear hp2 ht h5
  go_wp2_with (refine ec 6 62 (w.heap.size+1) q2.cells H5.out.2 ?_)
  refine gZ Tryz.results222 (w.heap.size+1) q2.cells H5.out.2 ?_
  exact ⟨q2,rfl,HP.out.trans HE.out.symm,H5.out.1.mK (by omega) (by omega) _⟩
 focus
  have HE:=aA (opP_8 (now:=now) (x:=x.toaD) (o:=(8,N,M,s)) (p:=q.pure) rfl)
  have hcall:=CD q n base x now (8,N,M,s) C S.out.1.own (by have:=S.out.1.sz; omega) HR.out.1 HR.out.2.1 HR.out.2.2.1 HR.out.2.2.2.1 HR.out.2.2.2.2.1 HR.out.2.2.2.2.2.1 rfl
  clear f1 zN hM
  go_wp2_with (first | (refine eT 3 w.heap.size q.cells S.out.1.box ?_) | (refine wpList_load_row rfl 134 (.tmp 8) rfl (w.heap.size+3) (by rfl) 134 (j9 (8,N,M,s)) (0,0) _ S.out.2.2.2 Tryz.underlying134 rfl (by kernel_rfl) ?_))
  refine hcall.mono ?_
  clear hcall
  rintro e D ⟨q2,rfl,hp2,ht⟩
  have h5:=S.out.1.call ht
  have H5:=aA (And.intro h5.1 ((h5.2 (w.heap.size+1) (by omega) (by omega)).trans S.out.2.1))
  have HP:Hid (q2.pure=_):=hp2
  clear hp2 ht h5
  go_wp2_with (refine ec 6 70 (w.heap.size+1) q2.cells H5.out.2 ?_)
  refine gZ Tryz.results222 (w.heap.size+1) q2.cells H5.out.2 ?_
  exact ⟨q2,rfl,HP.out.trans HE.out.symm,H5.out.1.mK (by omega) (by omega) _⟩
 focus
  have HE:=aA (opP_9 (now:=now) (x:=x.toaD) (o:=(9,N,M,s)) (p:=q.pure) rfl)
  have hcall:=C0 q n base x now (9,N,M,s) C S.out.1.own (by have:=S.out.1.sz; omega) HR.out.1 HR.out.2.1 HR.out.2.2.1 HR.out.2.2.2.1 HR.out.2.2.2.2.1 HR.out.2.2.2.2.2.1 rfl
  clear f1 zN hM
  go_wp2_with (first | (refine eT 3 w.heap.size q.cells S.out.1.box ?_) | (refine wpList_load_row rfl 134 (.tmp 8) rfl (w.heap.size+3) (by rfl) 134 (j9 (9,N,M,s)) (0,0) _ S.out.2.2.2 Tryz.underlying134 rfl (by kernel_rfl) ?_))
  refine hcall.mono ?_
  clear hcall
  rintro e D ⟨q2,rfl,hp2,ht⟩
  have h5:=S.out.1.call ht
  have H5:=aA (And.intro h5.1 ((h5.2 (w.heap.size+1) (by omega) (by omega)).trans S.out.2.1))
  have HP:Hid (q2.pure=_):=hp2
  clear hp2 ht h5
  go_wp2_with (refine ec 6 70 (w.heap.size+1) q2.cells H5.out.2 ?_)
  refine gZ Tryz.results222 (w.heap.size+1) q2.cells H5.out.2 ?_
  exact ⟨q2,rfl,HP.out.trans HE.out.symm,H5.out.1.mK (by omega) (by omega) _⟩
 focus
  have HE:=aA (opP_10 (now:=now) (x:=x.toaD) (o:=(10,N,M,s)) (p:=q.pure) rfl)
  have hcall:=CA q n base x now (10,N,M,s) C S.out.1.own (by have:=S.out.1.sz; omega) HR.out.1 HR.out.2.1 HR.out.2.2.1 HR.out.2.2.2.1 HR.out.2.2.2.2.1 HR.out.2.2.2.2.2.1 rfl
  clear f1 zN hM
  go_wp2_with (first | (refine eT 3 w.heap.size q.cells S.out.1.box ?_) | (refine wpList_load_row rfl 134 (.tmp 8) rfl (w.heap.size+3) (by rfl) 134 (j9 (10,N,M,s)) (0,0) _ S.out.2.2.2 Tryz.underlying134 rfl (by kernel_rfl) ?_))
  refine hcall.mono ?_
  clear hcall
  rintro e D ⟨q2,rfl,hp2,ht⟩
  have h5:=S.out.1.call ht
  have H5:=aA (And.intro h5.1 ((h5.2 (w.heap.size+1) (by omega) (by omega)).trans S.out.2.1))
  have HP:Hid (q2.pure=_):=hp2
  clear hp2 ht h5
  go_wp2_with (refine ec 6 79 (w.heap.size+1) q2.cells H5.out.2 ?_)
  refine gZ Tryz.results222 (w.heap.size+1) q2.cells H5.out.2 ?_
  exact ⟨q2,rfl,HP.out.trans HE.out.symm,H5.out.1.mK (by omega) (by omega) _⟩
 focus
  have HE:=aA (opP_11 (now:=now) (x:=x.toaD) (o:=(11,N,M,s)) (p:=q.pure) rfl)
  have hcall:=AS q n base x now (11,N,M,s) C S.out.1.own (by have:=S.out.1.sz; omega) HR.out.1 HR.out.2.1 HR.out.2.2.1 HR.out.2.2.2.1 HR.out.2.2.2.2.1 HR.out.2.2.2.2.2.1 rfl
  clear f1 zN hM
  go_wp2_with (first | (refine eT 3 w.heap.size q.cells S.out.1.box ?_) | (refine wpList_load_row rfl 134 (.tmp 8) rfl (w.heap.size+3) (by rfl) 134 (j9 (11,N,M,s)) (0,0) _ S.out.2.2.2 Tryz.underlying134 rfl (by kernel_rfl) ?_))
  refine hcall.mono ?_
  clear hcall
  rintro e D ⟨q2,rfl,hp2,ht⟩
  have h5:=S.out.1.call ht
  have H5:=aA (And.intro h5.1 ((h5.2 (w.heap.size+1) (by omega) (by omega)).trans S.out.2.1))
  have HP:Hid (q2.pure=_):=hp2
  clear hp2 ht h5
  go_wp2_with (refine ec 6 79 (w.heap.size+1) q2.cells H5.out.2 ?_)
  refine gZ Tryz.results222 (w.heap.size+1) q2.cells H5.out.2 ?_
  exact ⟨q2,rfl,HP.out.trans HE.out.symm,H5.out.1.mK (by omega) (by omega) _⟩
 focus
  have HE:=aA (opP_12 (now:=now) (x:=x.toaD) (o:=(12,N,M,s)) (p:=q.pure) rfl)
  have hcall:=Cl q n base x now (12,N,M,s) C S.out.1.own (by have:=S.out.1.sz; omega) HR.out.1 HR.out.2.1 HR.out.2.2.1 HR.out.2.2.2.1 HR.out.2.2.2.2.1 HR.out.2.2.2.2.2.1 rfl
  clear f1 zN hM
  go_wp2_with (first | (refine eT 3 w.heap.size q.cells S.out.1.box ?_) | (refine wpList_load_row rfl 134 (.tmp 8) rfl (w.heap.size+3) (by rfl) 134 (j9 (12,N,M,s)) (0,0) _ S.out.2.2.2 Tryz.underlying134 rfl (by kernel_rfl) ?_))
  refine hcall.mono ?_
  clear hcall
  rintro e D ⟨q2,rfl,hp2,ht⟩
  have h5:=S.out.1.call ht
  have H5:=aA (And.intro h5.1 ((h5.2 (w.heap.size+1) (by omega) (by omega)).trans S.out.2.1))
  have HP:Hid (q2.pure=_):=hp2
  clear hp2 ht h5
  go_wp2_with (refine ec 6 79 (w.heap.size+1) q2.cells H5.out.2 ?_)
  refine gZ Tryz.results222 (w.heap.size+1) q2.cells H5.out.2 ?_
  exact ⟨q2,rfl,HP.out.trans HE.out.symm,H5.out.1.mK (by omega) (by omega) _⟩
 focus
  have HE:=aA (opP_13 (now:=now) (x:=x.toaD) (o:=(13,N,M,s)) (p:=q.pure) rfl)
  have hcall:=Av q n base x (13,N,M,s) C S.out.1.own (by have:=S.out.1.sz; omega) HR.out.1 HR.out.2.1 HR.out.2.2.1 HR.out.2.2.2.1 HR.out.2.2.2.2.2.1 rfl
  clear f1 zN hM
  go_wp2_with (first | (refine eT 3 w.heap.size q.cells S.out.1.box ?_) | (refine wpList_load_row rfl 134 (.tmp 8) rfl (w.heap.size+3) (by rfl) 134 (j9 (13,N,M,s)) (0,0) _ S.out.2.2.2 Tryz.underlying134 rfl (by kernel_rfl) ?_))
  refine hcall.mono ?_
  clear hcall
  rintro e D ⟨q2,rfl,hp2,ht⟩
  have h5:=S.out.1.call ht
  have H5:=aA (And.intro h5.1 ((h5.2 (w.heap.size+1) (by omega) (by omega)).trans S.out.2.1))
  have HP:Hid (q2.pure=_):=hp2
  clear hp2 ht h5
  go_wp2_with (refine ec 6 86 (w.heap.size+1) q2.cells H5.out.2 ?_)
  refine gZ Tryz.results222 (w.heap.size+1) q2.cells H5.out.2 ?_
  exact ⟨q2,rfl,HP.out.trans HE.out.symm,H5.out.1.mK (by omega) (by omega) _⟩
 focus
  have HE:=aA (opP_14 (now:=now) (x:=x.toaD) (o:=(14,N,M,s)) (p:=q.pure) rfl)
  have hcall:=BS q n base x (14,N,M,s) C S.out.1.own (by have:=S.out.1.sz; omega) HR.out.1 HR.out.2.1 HR.out.2.2.1 HR.out.2.2.2.1 HR.out.2.2.2.2.2.1 rfl
  clear f1 zN hM
  go_wp2_with (first | (refine eT 3 w.heap.size q.cells S.out.1.box ?_) | (refine wpList_load_row rfl 134 (.tmp 8) rfl (w.heap.size+3) (by rfl) 134 (j9 (14,N,M,s)) (0,0) _ S.out.2.2.2 Tryz.underlying134 rfl (by kernel_rfl) ?_))
  refine hcall.mono ?_
  clear hcall
  rintro e D ⟨q2,rfl,hp2,ht⟩
  have h5:=S.out.1.call ht
  have H5:=aA (And.intro h5.1 ((h5.2 (w.heap.size+1) (by omega) (by omega)).trans S.out.2.1))
  have HP:Hid (q2.pure=_):=hp2
  clear hp2 ht h5
  go_wp2_with (refine ec 6 86 (w.heap.size+1) q2.cells H5.out.2 ?_)
  refine gZ Tryz.results222 (w.heap.size+1) q2.cells H5.out.2 ?_
  exact ⟨q2,rfl,HP.out.trans HE.out.symm,H5.out.1.mK (by omega) (by omega) _⟩
 focus
  have HE:=aA (opP_15 (now:=now) (x:=x.toaD) (o:=(15,N,M,s)) (p:=q.pure) rfl)
  have hcall:=BU q n base x (15,N,M,s) C S.out.1.own (by have:=S.out.1.sz; omega) HR.out.1 HR.out.2.1 HR.out.2.2.1 HR.out.2.2.2.1 HR.out.2.2.2.2.2.1 rfl
  clear f1 zN hM
  go_wp2_with (first | (refine eT 3 w.heap.size q.cells S.out.1.box ?_) | (refine wpList_load_row rfl 134 (.tmp 8) rfl (w.heap.size+3) (by rfl) 134 (j9 (15,N,M,s)) (0,0) _ S.out.2.2.2 Tryz.underlying134 rfl (by kernel_rfl) ?_))
  refine hcall.mono ?_
  clear hcall
  rintro e D ⟨q2,rfl,hp2,ht⟩
  have h5:=S.out.1.call ht
  have H5:=aA (And.intro h5.1 ((h5.2 (w.heap.size+1) (by omega) (by omega)).trans S.out.2.1))
  have HP:Hid (q2.pure=_):=hp2
  clear hp2 ht h5
  go_wp2_with (refine ec 6 93 (w.heap.size+1) q2.cells H5.out.2 ?_)
  refine gZ Tryz.results222 (w.heap.size+1) q2.cells H5.out.2 ?_
  exact ⟨q2,rfl,HP.out.trans HE.out.symm,H5.out.1.mK (by omega) (by omega) _⟩
 focus
  have HE:=aA (opP_16 (now:=now) (x:=x.toaD) (o:=(16,N,M,s)) (p:=q.pure) rfl)
  have hcall:=C9 q n base x (16,N,M,s) C S.out.1.own (by have:=S.out.1.sz; omega) HR.out.1 HR.out.2.1 HR.out.2.2.1 HR.out.2.2.2.1 HR.out.2.2.2.2.2.1 rfl
  clear f1 zN hM
  go_wp2_with (first | (refine eT 3 w.heap.size q.cells S.out.1.box ?_) | (refine wpList_load_row rfl 134 (.tmp 8) rfl (w.heap.size+3) (by rfl) 134 (j9 (16,N,M,s)) (0,0) _ S.out.2.2.2 Tryz.underlying134 rfl (by kernel_rfl) ?_))
  refine hcall.mono ?_
  clear hcall
  rintro e D ⟨q2,rfl,hp2,ht⟩
  have h5:=S.out.1.call ht
  have H5:=aA (And.intro h5.1 ((h5.2 (w.heap.size+1) (by omega) (by omega)).trans S.out.2.1))
  have HP:Hid (q2.pure=_):=hp2
  clear hp2 ht h5
  go_wp2_with (refine ec 6 93 (w.heap.size+1) q2.cells H5.out.2 ?_)
  refine gZ Tryz.results222 (w.heap.size+1) q2.cells H5.out.2 ?_
  exact ⟨q2,rfl,HP.out.trans HE.out.symm,H5.out.1.mK (by omega) (by omega) _⟩
 have HE:=aA (opP_17 (now:=now) (x:=x.toaD) (o:=(17,N,M,s)) (p:=q.pure) rfl)
 clear f1 zN hM
 obtain ⟨s1,⟨u,c⟩,f⟩:=eY (n:=n) (j:=4) (v:= .int .i64 0) (y:= { x with pc:=0 }) S.out.1.own HR.out.2.1 HA.out ⟨rfl,rfl,rfl⟩ (by decide) rfl
 have m2:=S.out.1.box.cells.2.2.1
 rw [HA.out] at m2
 have h5:=S.out.1.call s1
 have H5:=aA (And.intro h5.1 ((h5.2 (w.heap.size+1) (by omega) (by omega)).trans S.out.2.1))
 clear s1 h5
 go_upto_region 34 with fail
 generalize C.setCell ⟨gs,n * 12+4,none⟩ (.int .i64 0)=D at *
 clear m2 c f u
 have HP:Hid (({ q with procs:=q.procs.set n { x with pc:=0 } } :af).pure= { q.pure with procs:=ce x.id (fun y=> { y with pc:=0 }) q.pure.procs }):=g7 (nx:=q.next) HR.out.1.kW HR.out.2.1 rfl
 go_wp2_with (first | (refine eT 3 w.heap.size q.cells H5.out.1.box ?_) | (refine ec 6 99 (w.heap.size+1) q.cells H5.out.2 ?_))
 refine gZ Tryz.results222 (w.heap.size+1) q.cells H5.out.2 ?_
 exact ⟨_,congrArg (fun c=>Ending.returned (.agg c)) (jd (nx:=q.next)).symm,HP.out.trans HE.out.symm,H5.out.1.mK (by omega) (by omega) _⟩
theorem zx (p:af) (now:Int) (w:World) (hf:p.Fit) (hs: ∀ x∈p.procs,x.dX) (h:af.At w p) (hr:aQ p.pure) (hn:p.next≤999999980) (eu:0≤now∧now≤1000000000):
  Calls Tryz.prog 204 #[.agg p.cells,.int .i64 now] w fun e w'=> ∃ q:af,e= .returned (.agg q.cells)∧q.pure=mS now p.pure∧ap w' w.heap.size q∧Below w.heap.size w w':=by
 have b1:=dT w (.cells p.cells 32) (.cells ar 32)
 have h2:=cZ w (.cells p.cells 32) (.cells ar 32)
 have hA:af.At ((w.alloc (.cells p.cells 32)).alloc (.cells ar 32)) p:=h.below b1
 have S:Hid (av ((w.alloc (.cells p.cells 32)).alloc (.cells ar 32)) w.heap.size p∧Below w.heap.size w ((w.alloc (.cells p.cells 32)).alloc (.cells ar 32))∧((w.alloc (.cells p.cells 32)).alloc (.cells ar 32)).heap[w.heap.size+1]? =some (.cells ar 32 (0,0))):=⟨h2.1,b1,h2.2⟩
 have HR:Hid (aQ p.pure∧p.next≤999999980∧(0≤now∧now≤1000000000)∧p.Fit∧(∀ x∈p.procs,x.dX)):=⟨hr,hn,eu,hf,hs⟩
 have hcall:=fR p _ hf hs hA
 clear h b1 h2 hA hr hn eu hf hs
 go_enter Tryz.func204,Tryz.ntmps204
 go_upto_region 1 with fail
 generalize (w.alloc (.cells p.cells 32)).alloc (.cells ar 32)=A at *
 go_wp2_with (refine eT 2 w.heap.size p.cells S.out.1 ?_)
 refine hcall.mono ?_
 clear hcall
 rintro e A1 ⟨q,rfl,hown,gn,hb1⟩
 have hsz:=(Array.getElem?_eq_some_iff.1 S.out.2.2).1
 replace S:Hid (Below w.heap.size w A1∧A1.heap[w.heap.size+1]? =some (.cells ar 32 (0,0))∧w.heap.size+1 < A.heap.size∧A.heap.size≤A1.heap.size):=⟨S.out.2.1.trans (hb1.mono S.out.2.1.size),(hb1.block _ hsz).trans S.out.2.2,hsz,hb1.size⟩
 have hsq: ∀ x∈q.procs,x.prog.length≤1048576:=fun x hx=>by
  have h5:x.toaD∈p.pure.procs:=by rw [← gn]; exact List.mem_map.2 ⟨x,hx,rfl⟩
  obtain ⟨y,hy,e⟩:=List.mem_map.1 h5
  have h6:=(HR.out.2.2.2.2 y hy).1
  have h7:y.prog=x.prog:=congrArg aD.prog e
  rw [← h7]; exact h6
 have hcall:=ti q now A.heap.size A1 hown hb1.size (by rw [gn]; exact Wk.of HR.out.1 HR.out.2.1) hsq
 rw [gn] at hcall
 clear hsz hown gn hb1 hsq
 go_wp2_with fail
 refine hcall.mono ?_
 clear hcall
 rintro e A2 ⟨q2,rfl,hp2,DU,hb2⟩
 have h5:=(Below.refl A2.heap.size A2).alloc (Nat.le_refl _) (.cells q2.cells 32)
 replace S:Hid (Below w.heap.size w A2∧A2.heap[w.heap.size+1]? =some (.cells ar 32 (0,0))∧w.heap.size+1 < A.heap.size∧ap A2 A.heap.size q2∧q2.pure=gj now p.pure∧A.heap.size≤A2.heap.size):=⟨S.out.1.trans (hb2.mono (by have:=S.out.2.2.1; omega)),(hb2.block _ S.out.2.2.1).trans S.out.2.1,S.out.2.2.1,DU,hp2,Nat.le_trans S.out.2.2.2 hb2.size⟩
 clear hp2 DU hb2 h5
 go_upto_region 2 with (refine ec 5 10 _ q2.cells (heap_alloc_new _ _) ?_)
 have lW:Below A2.heap.size A2 ((A2.alloc (.cells ar 32)).setRow A2.heap.size q2.cells):=below_setRow ((Below.refl _ _).alloc (Nat.le_refl _) _) (Nat.le_refl _) _
 replace S:Hid (Below w.heap.size w ((A2.alloc (.cells ar 32)).setRow A2.heap.size q2.cells)∧((A2.alloc (.cells ar 32)).setRow A2.heap.size q2.cells).heap[w.heap.size+1]? =some (.cells ar 32 (0,0))∧w.heap.size+1 < A.heap.size∧ap ((A2.alloc (.cells ar 32)).setRow A2.heap.size q2.cells) A.heap.size q2∧q2.pure=gj now p.pure∧av ((A2.alloc (.cells ar 32)).setRow A2.heap.size q2.cells) A2.heap.size q2∧A.heap.size≤A2.heap.size∧A2.heap.size < ((A2.alloc (.cells ar 32)).setRow A2.heap.size q2.cells).heap.size∧(∀ g∈q2.blocks,g < A2.heap.size)):=⟨S.out.1.trans (lW.mono S.out.1.size),(lW.block _ (by have:=S.out.2.2; omega)).trans S.out.2.1,S.out.2.2.1,S.out.2.2.2.1.below lW,S.out.2.2.2.2.1,setRow_heap _ _ _ _ _ _ (heap_alloc_new _ _),S.out.2.2.2.2.2,by simp,fun g hg=>(S.out.2.2.2.1.lt g hg).2⟩
 clear lW
 generalize (A2.alloc (.cells ar 32)).setRow A2.heap.size q2.cells=B at *
 generalize A2.heap.size=X at *
 have HW:=aA (ru (now:=now) HR.out.1 (by have h5:=HR.out.2.1; have e:p.pure.next=p.next:=rfl; omega))
 have HWR:Hid (aQ q2.pure):=by show aQ q2.pure; rw [S.out.2.2.2.2.1]; exact HW.out.1
 have hcall:=ij q2 1 0 B (by have:=(dW HWR.out).1; omega) S.out.2.2.2.1.at
 go_wp2_with (refine eT 5 X q2.cells S.out.2.2.2.2.2.1 ?_)
 refine hcall.mono ?_
 clear hcall
 rintro e B2 ⟨⟨z,rfl,gV⟩,hb2⟩
 replace S:Hid (Below w.heap.size w B2∧B2.heap[w.heap.size+1]? =some (.cells ar 32 (0,0))∧w.heap.size+1 < A.heap.size∧ap B2 A.heap.size q2∧q2.pure=gj now p.pure∧av B2 X q2∧A.heap.size≤X∧X < B2.heap.size∧(∀ g∈q2.blocks,g < X)):=⟨S.out.1.trans (hb2.mono S.out.1.size),(hb2.block _ (by have:=S.out.2.2; omega)).trans S.out.2.1,S.out.2.2.1,S.out.2.2.2.1.below hb2,S.out.2.2.2.2.1,S.out.2.2.2.2.2.1.below hb2,S.out.2.2.2.2.2.2.1,by have:=hb2.size; have:=S.out.2.2.2.2.2.2.2.1; omega,S.out.2.2.2.2.2.2.2.2⟩
 clear hb2
 rcases pp gV with ⟨hz,hw⟩ | ⟨i,v,hz,hi,hw⟩
 ·have dz:decide (z < 0)=true:=decide_eq_true hz
  have HE:Hid (q2.pure=mS now p.pure):=by show q2.pure=_; unfold mS; rw [← S.out.2.2.2.2.1,hw]
  clear gV hz hw
  go_wp2_with (first | (refine eT 5 X q2.cells S.out.2.2.2.2.2.1 ?_) | (refine ec 4 15 (w.heap.size+1) q2.cells S.out.2.1 ?_))
  refine gZ Tryz.results204 (w.heap.size+1) q2.cells S.out.2.1 ?_
  exact ⟨q2,rfl,HE.out,(S.out.2.2.2.1.lower (by have:=S.out.2.2.1; omega)).same fun g hg=>setRow_other _ _ _ _ (by have:=(S.out.2.2.2.1.lt g hg).1; have:=S.out.2.2.1; omega),below_setRow S.out.1 (by omega) _⟩
 subst hz
 have dz:decide ((i:Int) < 0)=false:=decide_eq_false (by omega)
 have hm:=ft hw
 have HE:Hid (lX now v.toaD (opAt v.toaD) q2.pure=mS now p.pure):=by show lX now v.toaD (opAt v.toaD) q2.pure=_; unfold mS; rw [← S.out.2.2.2.2.1,hw]
 have hcall:=G6 q2 i A.heap.size v now B2 S.out.2.2.2.1 (by have:=S.out.2.2.2.2.2.2; omega) HWR.out hi hm.2.1 (by have h5:=HW.out.2.2; have h6:q2.next=(gj now p.pure).next:=congrArg aE.next S.out.2.2.2.2.1; have h7:=HR.out.2.1; have e:p.pure.next=p.next:=rfl; omega) HR.out.2.2.1
 rw [HE.out] at hcall
 clear gV hi hw hm
 go_wp2_with (refine eT 5 X q2.cells S.out.2.2.2.2.2.1 ?_)
 refine hcall.mono ?_
 clear hcall dz
 rintro e B3 ⟨q3,rfl,wu,ht⟩
 have S3:Hid (Below w.heap.size w B3∧B3.heap[w.heap.size+1]? =some (.cells ar 32 (0,0))∧ap B3 A.heap.size q3∧q3.pure=mS now p.pure∧w.heap.size+1 < A.heap.size):=by
  have hlt:=S.out.2.2.1
  have hbb:=S.out.2.2.2.2.2.2
  have hlo: ∀ g∈q2.blocks,A.heap.size≤g:=fun g hg=>(S.out.2.2.2.1.lt g hg).1
  exact ⟨S.out.1.trans ((ht.kept.below (by omega) hlo).mono (by omega)),(ht.kept.same _ (by omega) (fun hm=>by have:=hlo _ hm; omega)).trans S.out.2.1,ht.own,wu,hlt⟩
 clear wu ht S
 go_wp2_with (refine ec 4 19 (w.heap.size+1) q3.cells S3.out.2.1 ?_)
 refine gZ Tryz.results204 (w.heap.size+1) q3.cells S3.out.2.1 ?_
 exact ⟨q3,rfl,S3.out.2.2.2.1,(S3.out.2.2.1.lower (by have:=S3.out.2.2.2.2; omega)).same fun g hg=>setRow_other _ _ _ _ (by have:=(S3.out.2.2.1.lt g hg).1; have:=S3.out.2.2.2.2; omega),below_setRow S3.out.1 (by omega) _⟩
theorem vu (p:af) (now:Int) (w:World) (hf:p.Fit) (hs: ∀ x∈p.procs,x.dX) (h:af.At w p):
  Calls Tryz.prog 160 #[.agg p.cells,.int .i64 now] w fun e w'=>gI w (hZ p.pure now) e w':=by
 have b1:=dT w (.cells p.cells 32) (.cells ar 32)
 have h2:=cZ w (.cells p.cells 32) (.cells ar 32)
 have S:Hid (av ((w.alloc (.cells p.cells 32)).alloc (.cells ar 32)) w.heap.size p∧af.At ((w.alloc (.cells p.cells 32)).alloc (.cells ar 32)) p∧Below w.heap.size w ((w.alloc (.cells p.cells 32)).alloc (.cells ar 32))∧((w.alloc (.cells p.cells 32)).alloc (.cells ar 32)).heap[w.heap.size+1]? =some (.cells ar 32 (0,0))):=⟨h2.1,h.below b1,b1,h2.2⟩
 have fl:Hid (p.Fit∧ ∀ x∈p.procs,x.dX):=⟨hf,hs⟩
 clear h hf hs b1 h2
 go_enter Tryz.func160,Tryz.ntmps160
 go_upto_region 1 with fail
 generalize (w.alloc (.cells p.cells 32)).alloc (.cells ar 32)=A at *
 have hcall:=eV p A fl.out.1 fl.out.2 S.out.2.1
 go_wp2_with (refine eT 2 w.heap.size p.cells S.out.1 ?_)
 refine hcall.mono ?_
 clear hcall
 rintro e A1 ⟨rfl,hb⟩
 replace S:Hid (av (A1) w.heap.size p∧af.At (A1) p∧Below w.heap.size w (A1)∧(A1).heap[w.heap.size+1]? =some (.cells ar 32 (0,0))):=⟨S.out.1.below hb,S.out.2.1.below hb,S.out.2.2.1.trans (hb.mono S.out.2.2.1.size),(hb.block _ (Array.getElem?_eq_some_iff.1 S.out.2.2.2).1).trans S.out.2.2.2⟩
 clear hb
 cases h4:bK p.pure
 ·have HN:Hid (hZ p.pure now=none):=by show hZ _ _=none; simp [hZ,h4]
  clear h4
  go_wp2_with (refine ec 4 19 (w.heap.size+1) ar S.out.2.2.2 ?_)
  refine mG Tryz.results160 (w.heap.size+1) ar (.bool false) S.out.2.2.2 ?_
  exact ca HN.out (below_setRow S.out.2.2.1 (by omega) _)
 have H4:Hid (bK p.pure=true):=h4
 clear h4
 have hcall:=dx now 0 1000000000 A1
 go_wp2_with fail
 refine hcall.mono ?_
 clear hcall
 rintro e A2 ⟨rfl,rfl⟩
 cases h5:cv now 0 1000000000
 ·have HN:Hid (hZ p.pure now=none):=by show hZ _ _=none; simp [hZ,h5]
  clear h5
  go_wp2_with (refine ec 4 19 (w.heap.size+1) ar S.out.2.2.2 ?_)
  refine mG Tryz.results160 (w.heap.size+1) ar (.bool false) S.out.2.2.2 ?_
  exact ca HN.out (below_setRow S.out.2.2.1 (by omega) _)
 have H5:Hid (cv now 0 1000000000=true):=h5
 clear h5
 have hcall:=uy p A2
 unfold af.cells at hcall
 obtain ⟨m0,m1,m2,m3,m4,m5,m6,m7⟩:=S.out.1.cells
 go_wp2_with fail
 clear m0 m1 m2 m3 m4 m5 m6 m7
 refine hcall.mono ?_
 clear hcall
 rintro e A3 ⟨rfl,hb⟩
 replace S:Hid (av (A3) w.heap.size p∧af.At (A3) p∧Below w.heap.size w (A3)∧(A3).heap[w.heap.size+1]? =some (.cells ar 32 (0,0))):=⟨S.out.1.below hb,S.out.2.1.below hb,S.out.2.2.1.trans (hb.mono S.out.2.2.1.size),(hb.block _ (Array.getElem?_eq_some_iff.1 S.out.2.2.2).1).trans S.out.2.2.2⟩
 clear hb
 by_cases h6:p.next≤999999980
 rotate_left
 ·have HN:Hid (hZ p.pure now=none):=by show hZ _ _=none; have h7:decide (p.pure.next≤999999980)=false:=decide_eq_false h6; simp only [hZ,h7,Bool.and_false]; rfl
  have d6:decide (p.next≤999999980)=false:=decide_eq_false h6
  clear h6
  go_wp2_with (refine ec 4 19 (w.heap.size+1) ar S.out.2.2.2 ?_)
  refine mG Tryz.results160 (w.heap.size+1) ar (.bool false) S.out.2.2.2 ?_
  exact ca HN.out (below_setRow S.out.2.2.1 (by omega) _)
 have HN:Hid (hZ p.pure now=some (mS now p.pure)):=by show hZ _ _=some _; have h7:decide (p.pure.next≤999999980)=true:=decide_eq_true h6; simp only [hZ,H4.out,H5.out,h7,Bool.and_true]; rfl
 have d6:decide (p.next≤999999980)=true:=decide_eq_true h6
 have hcall:=zx p now A3 fl.out.1 fl.out.2 S.out.2.1 ((ch _).1 H4.out) h6 (bz.1 H5.out)
 clear h6
 go_wp2_with (refine eT 2 w.heap.size p.cells S.out.1 ?_)
 refine hcall.mono ?_
 clear hcall d6
 rintro e A4 ⟨q,rfl,hp,ho,hb⟩
 have hlt:=(Array.getElem?_eq_some_iff.1 S.out.2.2.2).1
 have S3:Hid (Below w.heap.size w A4∧A4.heap[w.heap.size+1]? =some (.cells ar 32 (0,0))∧ap A4 A3.heap.size q∧q.pure=mS now p.pure∧w.heap.size+1 < A3.heap.size):=⟨S.out.2.2.1.trans (hb.mono S.out.2.2.1.size),(hb.block _ hlt).trans S.out.2.2.2,ho,hp,hlt⟩
 clear hp ho hb hlt S
 go_wp2_with (refine ec 4 22 (w.heap.size+1) q.cells S3.out.2.1 ?_)
 refine mG Tryz.results160 (w.heap.size+1) q.cells (.bool true) S3.out.2.1 ?_
 rw [HN.out]
 exact ⟨q,rfl,(S3.out.2.2.1.lower (by have:=S3.out.2.2.2.2; omega)).same fun g hg=>setRow_other _ _ _ _ (by have:=(S3.out.2.2.1.lt g hg).1; have:=S3.out.2.2.2.2; omega),S3.out.2.2.2.1,below_setRow S3.out.1 (by omega) _⟩
end Go.Proofs.YtkbcplnlehdjfaaGreat
