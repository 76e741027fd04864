/- What the proof leans on, part 33: WkWake. -/
import Derived.Test.YtkbcplnlehdjfaaGreatOwnCh20
import Derived.Test.YtkbcplnlehdjfaaGreatOwnCh30
set_option maxRecDepth 100000
set_option maxHeartbeats 8000000

namespace Go.Proofs.YtkbcplnlehdjfaaGreat
open Go.RowKit Go.Maps
attribute [local go_sem ↓] Go.wp_at_zero Go.wp_at_succ
def wakeD(nx code:Int)(x:ProcD):ProcD:=⟨wakeF nx code x.toProcP,x.progA,x.progC⟩
abbrev WakeAt(W w:World)(base gs:Nat)(z q:PartD):Prop:=PartBox W w.heap.size z∧W.heap[w.heap.size+1]? =some(.cells zero8 32(0,0))∧PartOwn W base q∧KeptBut w W [gs] ∧Below base w W
theorem kids_set {n:Nat} {x y:ProcD} {l:List ProcD} (hx:l[n]? =some x)(hy:y.progA=x.progA):(l.set n y).filterMap procN.kid=l.filterMap procN.kid:=by
 have hn:=(List.getElem?_eq_some_iff.1 hx).1
 have e:l[n] =x:=(List.getElem?_eq_some_iff.1 hx).2
 rw [List.set_eq_take_append_cons_drop,if_pos hn]
 conv=>rhs; rw [← List.take_append_drop n l,List.drop_eq_getElem_cons hn]
 simp only [List.filterMap_append,List.filterMap_cons,e]
 have hk:procN.kid y=procN.kid x:=by show (y.progA).map _=(x.progA).map _; rw [hy]
 rw [hk]
theorem past_blocks {n:Nat} {q:PartD} {x:ProcD} {code:Int} {g:Nat} (hx:q.procs[n]? =some x)(h:g∈({ q with procs:=q.procs.set n(pastD code x) } :PartD).blocks):g∈q.blocks:=by
 unfold PartD.blocks at h ⊢
 simp only [kids_set hx(show (pastD code x).progA=x.progA from rfl)] at h
 exact h
theorem past_blocks2 {n:Nat} {q:PartD} {nx s:Int} {y:ProcD} {g:Nat} (hx:q.procs[n]? =some y)(h:g∈({ q with next:=nx,procs:=q.procs.set n { y with since:=s } } :PartD).blocks):g∈q.blocks:=by
 unfold PartD.blocks at h ⊢
 simp only [kids_set hx(show ({ y with since:=s } :ProcD).progA=y.progA from rfl)] at h
 exact h
theorem l4Wake_any(q:PartD)(n base:Nat)(x:ProcD)(code:Int)(w:World)(h:PartOwn w base q)(hb:base≤w.heap.size)(hx:q.procs[n]? =some x)(hpc:0≤x.pc∧x.pc < x.prog.length)(hl:x.prog.length≤1048576)(hn:0≤q.next∧q.next≤1000000000):
  Calls Tryz.prog 188 #[.agg q.cells,.int .i64 n,.int .i64 code] w fun e w'=> ∃ q2:PartD,e= .returned(.agg q2.cells)∧q2= { q with next:=wakeN q.next x.toProcP,procs:=q.procs.set n(wakeD q.next code x) } ∧PartOwn w' base q2∧Below base w w'∧KeptBut w w'(blk q.procA):=by
 obtain⟨gs,ha,-⟩:=proc_at h.at.1 hx
 have hgs:=own_lt h.procs(g:=gs)(by rw [ha]; simp [blk])
 have hnl:n < q.procs.length:=(List.getElem?_eq_some_iff.1 hx).1
 obtain⟨qi,qn,ps,pA,pC,ss,sA,sC,es,eA,eC,bs,bA,bC,fs,fA,fC,ts,tA,tC⟩:=q
 simp only at ha
 subst ha
 obtain⟨C,hC⟩: ∃ C:Array Value,C= #[.int .i64 qi,.int .i64 qn,.slice(some⟨gs,0,none⟩)ps.length pC,.slice sA ss.length sC,.slice eA es.length eC,.slice bA bs.length bC,.slice fA fs.length fC,.slice tA ts.length tC] :=⟨_,rfl⟩
 obtain⟨D,hD⟩: ∃ D:PartD,D=(⟨qi,qn,ps,some⟨gs,0,none⟩,pC,ss,sA,sC,es,eA,eC,bs,bA,bC,fs,fA,fC,ts,tA,tC⟩:PartD):=⟨_,rfl⟩
 obtain⟨A,hA⟩: ∃ A:World,A=(w.alloc(.cells C 32)).alloc(.cells zero8 32):=⟨_,rfl⟩
 have b1:Below w.heap.size w A:=by rw [hA]; exact alloc2_below _ _ _
 have h2:=alloc2_facts w(.cells C 32)(.cells zero8 32)
 have HC:Hid(ps[n]? =some x∧base≤gs∧gs < w.heap.size∧base≤w.heap.size∧n < ps.length):=⟨hx,hgs.1,hgs.2,hb,hnl⟩
 have PBK:Hid(∀ g∈D.blocks,g < w.heap.size):=fun g hg=>(h.lt g(hD ▸ hg)).2
 have HA:Hid(PartBox A w.heap.size D∧A.heap[w.heap.size+1]? =some(.cells zero8 32(0,0))∧PartOwn A base D∧Below w.heap.size w A):=by subst hA hD hC; exact⟨h2.1,h2.2,h.below b1,b1⟩
 subst hA hD hC
 have HN:Hid(0≤qn∧qn≤1000000000):=hn
 have hcall:=l4Past_any _ n base x code _ HA.out.2.2.1(by have:=HC.out.2.2.2.1; have:=b1.size; omega)hx hpc hl
 have j0:(0:Int)≤(n:Int):=by omega
 have j1:(n:Int) < ((ps.set n(pastD code x)).length:Int):=by have:n < ps.length:=hnl; rw [List.length_set]; omega
 rw [List.length_set] at j1
 clear h hb hx hgs b1 h2 hnl hl hpc hn
 unfold PartD.cells at hcall ⊢
 simp only at hcall ⊢
 go_enter Tryz.func188,Tryz.ntmps188
 obtain⟨m0,m1,m2,m3,m4,m5,m6,m7⟩:=HA.out.1.cells
 go_wp2_with fail
 clear m0 m1 m2 m3 m4 m5 m6 m7
 refine hcall.mono ?_
 clear hcall
 rintro e w1⟨rfl,ho1,hb1,hk1⟩
 have H1:Hid(WakeAt w1 w base gs(⟨qi,qn,ps,some⟨gs,0,none⟩,pC,ss,sA,sC,es,eA,eC,bs,bA,bC,fs,fA,fC,ts,tA,tC⟩:PartD)(⟨qi,qn,(ps.set n(pastD code x)),some⟨gs,0,none⟩,pC,ss,sA,sC,es,eA,eC,bs,bA,bC,fs,fA,fC,ts,tA,tC⟩:PartD)):=by
  have hc:=HC.out
  have hk:KeptBut w w1 [gs] :=(KeptBut.of_below HA.out.2.2.2).trans hk1
  have l1:=(Array.getElem?_eq_some_iff.1 HA.out.2.1).1
  exact⟨(hk1.same _(by omega)(by simp [blk]; omega)).trans HA.out.1,(hk1.same _(by omega)(by simp [blk]; omega)).trans HA.out.2.1,ho1,hk,(HA.out.2.2.2.mono hc.2.2.2.1).trans hb1⟩
 have PB1:Hid(∀ g∈(⟨qi,qn,(ps.set n(pastD code x)),some⟨gs,0,none⟩,pC,ss,sA,sC,es,eA,eC,bs,bA,bC,fs,fA,fC,ts,tA,tC⟩:PartD).blocks,g < w.heap.size):=fun g hg=>PBK.out g(past_blocks HC.out.1 hg)
 clear ho1 hb1 hk1 HA
 have H2:Hid(WakeAt(w1.setRow w.heap.size #[.int .i64 qi,.int .i64 qn,.slice(some⟨gs,0,none⟩)ps.length pC,.slice sA ss.length sC,.slice eA es.length eC,.slice bA bs.length bC,.slice fA fs.length fC,.slice tA ts.length tC])w base gs(⟨qi,qn,ps,some⟨gs,0,none⟩,pC,ss,sA,sC,es,eA,eC,bs,bA,bC,fs,fA,fC,ts,tA,tC⟩:PartD)(⟨qi,qn,(ps.set n(pastD code x)),some⟨gs,0,none⟩,pC,ss,sA,sC,es,eA,eC,bs,bA,bC,fs,fA,fC,ts,tA,tC⟩:PartD)):=by
  have hc:=HC.out
  exact⟨setRow_heap _ _ _ _ _ _ H1.out.1,(setRow_other _ _ _ _(by omega)).trans H1.out.2.1,H1.out.2.2.1.same fun g hg=>setRow_other _ _ _ _(by have:=PB1.out g hg; omega),H1.out.2.2.2.1.more(below_setRow(Below.refl _ _)(by omega)_),below_setRow H1.out.2.2.2.2(by omega)_⟩
 have hx1:(ps.set n(pastD code x))[n]? =some(pastD code x):=by rw [List.getElem?_set_self HC.out.2.2.2.2]
 have HX1:Hid((ps.set n(pastD code x))[n]? =some(pastD code x)):=hx1
 obtain⟨m0,m1,m2,m3,m4,m5,m6,m7⟩:=H2.out.1.cells
 obtain⟨d3⟩:World.cell? (w1.setRow w.heap.size #[.int .i64 qi,.int .i64 qn,.slice(some⟨gs,0,none⟩)ps.length pC,.slice sA ss.length sC,.slice eA es.length eC,.slice bA bs.length bC,.slice fA fs.length fC,.slice tA ts.length tC])⟨gs,n * 12+3,none⟩=some(.int .i64(pastD code x).state)∧True:=by
  obtain⟨g,e,h5⟩:=proc_at H2.out.2.2.1.at.1 hx1
  cases e
  exact⟨h5.2.2.2.1,trivial⟩
 by_cases hlen:x.pc+1=x.prog.length
 ·have e1:((pastD code x).state == 1)=false:=by show ((pastP code x.toProcP).state == 1)=false; unfold pastP; rw [if_pos hlen]; rfl
  have HE:Hid(wakeN qn x.toProcP=qn∧wakeD qn code x=(pastD code x)):=by show _∧_; unfold wakeN wakeD pastD wakeF pastP; rw [if_pos hlen,if_pos hlen,if_pos hlen]; exact⟨rfl,rfl⟩
  clear hlen hx1
  go_wp2_with (first | (refine stP 3 10(w.heap.size) #[.int .i64 qi,.int .i64 qn,.slice(some⟨gs,0,none⟩)ps.length pC,.slice sA ss.length sC,.slice eA es.length eC,.slice bA bs.length bC,.slice fA fs.length fC,.slice tA ts.length tC] H1.out.1 ?_) | (refine stP 6 21(w.heap.size+1) #[.int .i64 qi,.int .i64 qn,.slice(some⟨gs,0,none⟩)ps.length pC,.slice sA ss.length sC,.slice eA es.length eC,.slice bA bs.length bC,.slice fA fs.length fC,.slice tA ts.length tC] H2.out.2.1 ?_))
  refine rtP Tryz.results188(w.heap.size+1) #[.int .i64 qi,.int .i64 qn,.slice(some⟨gs,0,none⟩)ps.length pC,.slice sA ss.length sC,.slice eA es.length eC,.slice bA bs.length bC,.slice fA fs.length fC,.slice tA ts.length tC] H2.out.2.1 ?_
  rw [HE.out.1,HE.out.2]
  refine⟨_,?_,rfl,H2.out.2.2.1.same fun g hg=>setRow_other _ _ _ _(by have:=PB1.out g hg; omega),below_setRow H2.out.2.2.2.2(by have:=HC.out.2.2.2.1; omega)_,H2.out.2.2.2.1.more(below_setRow(Below.refl _ _)(by omega)_)⟩
  simp only [List.length_set]
 have e1:((pastD code x).state == 1)=true:=by show ((pastP code x.toProcP).state == 1)=true; unfold pastP; rw [if_neg hlen]; rfl
 have HE:Hid(wakeN qn x.toProcP=qn+1∧wakeD qn code x= { (pastD code x)with since:=qn }):=by show _∧_; unfold wakeN wakeD pastD wakeF pastP; rw [if_neg hlen,if_neg hlen,if_neg hlen]; exact⟨rfl,rfl⟩
 clear hlen
 have hcall:=l4Place_kept _ n base(pastD code x)_ H2.out.2.2.1(by have:=HC.out.2.2.2.1; have:=H2.out.2.2.2.1.size; omega)hx1 HN.out
 unfold PartD.cells at hcall
 simp only [List.length_set] at hcall
 clear hx1
 go_wp2_with (refine stP 3 10(w.heap.size) #[.int .i64 qi,.int .i64 qn,.slice(some⟨gs,0,none⟩)ps.length pC,.slice sA ss.length sC,.slice eA es.length eC,.slice bA bs.length bC,.slice fA fs.length fC,.slice tA ts.length tC] H1.out.1 ?_)
 clear m0 m1 m2 m3 m4 m5 m6 m7 d3 e1
 refine hcall.mono ?_
 clear hcall
 rintro e w3⟨q3,he,rfl,ho3,hb3,hk3⟩
 simp only [List.length_set] at he
 subst he
 have H3:Hid(WakeAt w3 w base gs(⟨qi,qn,ps,some⟨gs,0,none⟩,pC,ss,sA,sC,es,eA,eC,bs,bA,bC,fs,fA,fC,ts,tA,tC⟩:PartD)(⟨qi,(qn+1),((ps.set n(pastD code x)).set n({ (pastD code x)with since:=qn } :ProcD)),some⟨gs,0,none⟩,pC,ss,sA,sC,es,eA,eC,bs,bA,bC,fs,fA,fC,ts,tA,tC⟩:PartD)):=by
  have hc:=HC.out
  have l1:=(Array.getElem?_eq_some_iff.1 H2.out.2.1).1
  exact⟨(hk3.same _(by omega)(by simp [blk]; omega)).trans H2.out.1,(hk3.same _(by omega)(by simp [blk]; omega)).trans H2.out.2.1,ho3,H2.out.2.2.2.1.trans hk3,H2.out.2.2.2.2.trans hb3⟩
 have PB3:Hid(∀ g∈(⟨qi,(qn+1),((ps.set n(pastD code x)).set n({ (pastD code x)with since:=qn } :ProcD)),some⟨gs,0,none⟩,pC,ss,sA,sC,es,eA,eC,bs,bA,bC,fs,fA,fC,ts,tA,tC⟩:PartD).blocks,g < w.heap.size):=fun g hg=>PB1.out g(past_blocks2(q:=(⟨qi,qn,(ps.set n(pastD code x)),some⟨gs,0,none⟩,pC,ss,sA,sC,es,eA,eC,bs,bA,bC,fs,fA,fC,ts,tA,tC⟩:PartD))HX1.out hg)
 clear ho3 hb3 hk3 H1 H2
 have H4:Hid(WakeAt(w3.setRow w.heap.size #[.int .i64 qi,.int .i64(qn+1),.slice(some⟨gs,0,none⟩)ps.length pC,.slice sA ss.length sC,.slice eA es.length eC,.slice bA bs.length bC,.slice fA fs.length fC,.slice tA ts.length tC])w base gs(⟨qi,(qn+1),ps,some⟨gs,0,none⟩,pC,ss,sA,sC,es,eA,eC,bs,bA,bC,fs,fA,fC,ts,tA,tC⟩:PartD)(⟨qi,(qn+1),((ps.set n(pastD code x)).set n({ (pastD code x)with since:=qn } :ProcD)),some⟨gs,0,none⟩,pC,ss,sA,sC,es,eA,eC,bs,bA,bC,fs,fA,fC,ts,tA,tC⟩:PartD)):=by
  have hc:=HC.out
  exact⟨setRow_heap _ _ _ _ _ _ H3.out.1,(setRow_other _ _ _ _(by omega)).trans H3.out.2.1,H3.out.2.2.1.same fun g hg=>setRow_other _ _ _ _(by have:=PB3.out g hg; omega),H3.out.2.2.2.1.more(below_setRow(Below.refl _ _)(by omega)_),below_setRow H3.out.2.2.2.2(by omega)_⟩
 obtain⟨m0,m1,m2,m3,m4,m5,m6,m7⟩:=H4.out.1.cells
 go_wp2_with (first | (refine stP 3 20(w.heap.size) #[.int .i64 qi,.int .i64(qn+1),.slice(some⟨gs,0,none⟩)ps.length pC,.slice sA ss.length sC,.slice eA es.length eC,.slice bA bs.length bC,.slice fA fs.length fC,.slice tA ts.length tC] H3.out.1 ?_) | (refine stP 6 21(w.heap.size+1) #[.int .i64 qi,.int .i64(qn+1),.slice(some⟨gs,0,none⟩)ps.length pC,.slice sA ss.length sC,.slice eA es.length eC,.slice bA bs.length bC,.slice fA fs.length fC,.slice tA ts.length tC] H4.out.2.1 ?_))
 refine rtP Tryz.results188(w.heap.size+1) #[.int .i64 qi,.int .i64(qn+1),.slice(some⟨gs,0,none⟩)ps.length pC,.slice sA ss.length sC,.slice eA es.length eC,.slice bA bs.length bC,.slice fA fs.length fC,.slice tA ts.length tC] H4.out.2.1 ?_
 rw [HE.out.1,HE.out.2]
 refine⟨_,?_,rfl,?_,below_setRow H4.out.2.2.2.2(by have:=HC.out.2.2.2.1; omega)_,H4.out.2.2.2.1.more(below_setRow(Below.refl _ _)(by omega)_)⟩
 ·simp only [List.length_set]
 ·have h5:=H4.out.2.2.1.same(w':=(w3.setRow w.heap.size #[.int .i64 qi,.int .i64(qn+1),.slice(some⟨gs,0,none⟩)ps.length pC,.slice sA ss.length sC,.slice eA es.length eC,.slice bA bs.length bC,.slice fA fs.length fC,.slice tA ts.length tC]).setRow(w.heap.size+1) #[.int .i64 qi,.int .i64(qn+1),.slice(some⟨gs,0,none⟩)ps.length pC,.slice sA ss.length sC,.slice eA es.length eC,.slice bA bs.length bC,.slice fA fs.length fC,.slice tA ts.length tC])fun g hg=>setRow_other _ _ _ _(by have:=PB3.out g hg; omega)
  rw [List.set_set] at h5
  exact h5
end Go.Proofs.YtkbcplnlehdjfaaGreat
