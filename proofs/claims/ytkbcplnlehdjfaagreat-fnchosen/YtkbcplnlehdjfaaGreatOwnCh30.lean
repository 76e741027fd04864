/- What the proof leans on, part 30: WkPast. -/
import Derived.Test.YtkbcplnlehdjfaaGreatOwnCh20
import Derived.Test.YtkbcplnlehdjfaaGreatOwnCh24
import Derived.Test.YtkbcplnlehdjfaaGreatOwnCh25
import Derived.Test.YtkbcplnlehdjfaaGreatOwnCh27
set_option maxRecDepth 100000
set_option maxHeartbeats 8000000

namespace Go.Proofs.YtkbcplnlehdjfaaGreat
open Go.RowKit Go.Maps
attribute [local go_sem ↓] Go.wp_at_zero Go.wp_at_succ
def pastD(code:Int)(x:ProcD):ProcD:=⟨pastP code x.toProcP,x.progA,x.progC⟩
abbrev PastAt(W w:World)(base:Nat)(q:PartD)(v:Array Value):Prop:=PartBox W w.heap.size q∧W.heap[w.heap.size+1]? =some(.cells zero8 32(0,0))∧W.heap[w.heap.size+1+1]? =some(.cells v 43(0,0))∧PartOwn W base q∧Below w.heap.size w W
theorem KeptBut.more {w w1 w2:World} {bs:List Nat} (h:KeptBut w w1 bs)(hb:Below w.heap.size w1 w2):KeptBut w w2 bs:=⟨hb.os.trans h.os,hb.tape.trans h.tape,hb.output.trans h.output,Nat.le_trans h.size hb.size,fun g hg hn=>(hb.block g hg).trans(h.same g hg hn)⟩
theorem past_store {W w:World} {base gs n:Nat} {q:PartD} {x y:ProcD} {vs:List Value} (h1:PartBox W w.heap.size q)(h2:W.heap[w.heap.size+1]? =some(.cells zero8 32(0,0)))(h3:w.heap.size+1+1 < W.heap.size)(h4:PartOwn W base q)(h5:Below w.heap.size w W)
  (hx:q.procs[n]? =some x)(ha:q.procA=some⟨gs,0,none⟩)(hb:base≤w.heap.size)(hg1:base≤gs)(hg2:gs < w.heap.size)(hbk: ∀ g∈q.blocks,g < w.heap.size)(hv:vs=procK.vals y)(hy:y.prog=x.prog∧y.progA=x.progA∧y.progC=x.progC):
  W.there gs(n * 12)12∧PartOwn(W.setCells gs(n * 12)vs)base({ q with procs:=q.procs.set n y } :PartD)∧PartBox(W.setCells gs(n * 12)vs)w.heap.size q∧(W.setCells gs(n * 12)vs).heap[w.heap.size+1]? =some(.cells zero8 32(0,0))∧Below base w(W.setCells gs(n * 12)vs)∧(∀ g∈({ q with procs:=q.procs.set n y } :PartD).blocks,g≠w.heap.size+1)∧KeptBut w(W.setCells gs(n * 12)vs) [gs] :=by
 have hn:n < q.procs.length:=(List.getElem?_eq_some_iff.1 hx).1
 have hl:vs.length=12:=by rw [hv]; exact procK.len y
 have hth:W.there gs(n * 12)12:=by
  obtain⟨g,hg,hrow⟩:=RowAt.of_owns(K:=procK)h4.procs(by omega)
  rw [ha] at hg
  cases hg
  exact fun j hj=>⟨by have h7:=(hrow.cell hx(r:=j)hj).1; rw [show procK.n=12 from rfl] at h7; rw [h7,List.getElem?_eq_getElem(by rw [procK.len]; exact hj)]; rfl,(hrow.cell hx(r:=j)hj).2⟩
 have h7:=h4.setProc(n:=n)(j:=0)(x:=x)(y:=y)(vs:=vs)hx ha hy(by omega)(fun r _=>by rw [Nat.zero_add,hv])(fun r hr hn=>absurd⟨Nat.zero_le _,by omega⟩hn)
 rw [Nat.add_zero,← setCells_is] at h7
 have hs: ∀ g,g≠gs→g < W.heap.size→(W.setCells gs(n * 12)vs).heap[g]? =W.heap[g]? :=fun g hg hl=>h7.2.1.same g hl(by simpa using hg)
 refine⟨hth,h7.1,(hs _(by omega)(by omega)).trans h1,(hs _(by omega)(by omega)).trans h2,(h5.mono hb).trans(h7.2.1.below(by omega)(by simp; omega)),fun g hg e=> ?_,(KeptBut.of_below h5).trans h7.2.1⟩
 have h8:=hbk g(h7.2.2 ▸ hg)
 omega
theorem l4Past_any(q:PartD)(n base:Nat)(x:ProcD)(code:Int)(w:World)(h:PartOwn w base q)(hb:base≤w.heap.size)(hx:q.procs[n]? =some x)(hpc:0≤x.pc∧x.pc < x.prog.length)(hl:x.prog.length≤1048576):
  Calls Tryz.prog 219 #[.agg q.cells,.int .i64 n,.int .i64 code] w fun e w'=>e= .returned(.agg q.cells)∧PartOwn w' base({ q with procs:=q.procs.set n(pastD code x) } :PartD)∧Below base w w'∧KeptBut w w'(blk q.procA):=by
 obtain⟨gs,ha,hat⟩:=proc_at h.at.1 hx
 have hgs:=own_lt h.procs(g:=gs)(by rw [ha]; simp [blk])
 have hnl:n < q.procs.length:=(List.getElem?_eq_some_iff.1 hx).1
 obtain⟨qi,qn,ps,pA,pC,ss,sA,sC,es,eA,eC,bs,bA,bC,fs,fA,fC,ts,tA,tC⟩:=q
 simp only at ha
 subst ha
 obtain⟨C,hC⟩: ∃ C:Array Value,C= #[.int .i64 qi,.int .i64 qn,.slice(some⟨gs,0,none⟩)ps.length pC,.slice sA ss.length sC,.slice eA es.length eC,.slice bA bs.length bC,.slice fA fs.length fC,.slice tA ts.length tC] :=⟨_,rfl⟩
 obtain⟨G,hG⟩: ∃ G:Array Value,G= #[.int .i64 x.id,.int .i64 x.prio,.slice x.progA x.prog.length x.progC,.int .i64 1,.int .i64(x.pc+1),.int .i64 0,.int .i64 0,.int .i64 0,.string⟨#[]⟩,.string x.got,.int .i64 code,.int .i64 x.since] :=⟨_,rfl⟩
 obtain⟨D,hD⟩: ∃ D:PartD,D=(⟨qi,qn,ps,some⟨gs,0,none⟩,pC,ss,sA,sC,es,eA,eC,bs,bA,bC,fs,fA,fC,ts,tA,tC⟩:PartD):=⟨_,rfl⟩
 obtain⟨A,hA⟩: ∃ A:World,A=(w.alloc(.cells C 32)).alloc(.cells zero8 32):=⟨_,rfl⟩
 obtain⟨B,hB⟩: ∃ B:World,B=A.alloc(.cells G 43):=⟨_,rfl⟩
 have b1:Below w.heap.size w A:=by rw [hA]; exact alloc2_below _ _ _
 have b2:Below w.heap.size w B:=by rw [hB,hA]; exact alloc3_below _ _ _ _
 have h3:=alloc3_facts w(.cells C 32)(.cells zero8 32)(.cells G 43)
 have H6:Hid(PastAt B w base D G):=by subst hB hA hG hD hC; exact⟨h3.1,h3.2.1,h3.2.2.1,h.below b2,b2⟩
 have HC:Hid(ps[n]? =some x∧base≤gs∧gs < w.heap.size∧base≤w.heap.size∧n < ps.length):=⟨hx,hgs.1,hgs.2,hb,hnl⟩
 obtain⟨d0,d1,d2,d3,d4,d5,d6,d7,d8,d9,d10,d11⟩:ProcD.At A gs n x:=by
  obtain⟨g,e,h5⟩:=proc_at(h.below b1).at.1 hx
  cases e
  exact h5
 have PBK:Hid(∀ g∈D.blocks,g < w.heap.size):=fun g hg=>(h.lt g(hD ▸ hg)).2
 obtain⟨n0,n1⟩:=hpc
 have n2:x.pc≤1048576:=by omega
 have j0:(0:Int)≤(n:Int):=by omega
 have j1:(n:Int) < (ps.length:Int):=by have:n < ps.length:=hnl; omega
 clear h hb hx hgs hat b1 b2 h3 hnl hl
 subst hB hA hG hD hC
 unfold PartD.cells
 simp only
 go_enter Tryz.func219,Tryz.ntmps219
 by_cases hlen:x.pc+1=x.prog.length
 ·have PE:Hid(pastD code x=(⟨restP(goneP code x.toProcP),x.progA,x.progC⟩:ProcD)):=by show pastD code x=_; unfold pastD pastP; rw [if_pos hlen]
  have e1:(x.pc+1 == (x.prog.length:Int))=true:=by simp [hlen]
  clear hlen n1
  have hcall:=l4Dormant_any(⟨goneP code x.toProcP,x.progA,x.progC⟩:ProcD)
  simp only [goneP,noT] at hcall
  go_wp2_with fail
  clear d0 d1 d2 d3 d4 d5 d6 d7 d8 d9 d10 d11 e1
  refine(hcall _).mono ?_
  clear hcall
  rintro e w5⟨rfl,hb5⟩
  have H5:Hid(PastAt w5 w base(⟨qi,qn,ps,some⟨gs,0,none⟩,pC,ss,sA,sC,es,eA,eC,bs,bA,bC,fs,fA,fC,ts,tA,tC⟩:PartD) #[.int .i64 x.id,.int .i64 x.prio,.slice x.progA x.prog.length x.progC,.int .i64 1,.int .i64(x.pc+1),.int .i64 0,.int .i64 0,.int .i64 0,.string⟨#[]⟩,.string x.got,.int .i64 code,.int .i64 x.since]):=⟨H6.out.1.below hb5,(hb5.block _(Array.getElem?_eq_some_iff.1 H6.out.2.1).1).trans H6.out.2.1,(hb5.block _(Array.getElem?_eq_some_iff.1 H6.out.2.2.1).1).trans H6.out.2.2.1,H6.out.2.2.2.1.below hb5,H6.out.2.2.2.2.trans(hb5.mono H6.out.2.2.2.2.size)⟩
  have H8:Hid(PastAt(w5.setRow(w.heap.size+1+1) #[.int .i64 x.id,.int .i64 x.prio,.slice x.progA x.prog.length x.progC,.int .i64 0,.int .i64 0,.int .i64 0,.int .i64 0,.int .i64 0,.string⟨#[]⟩,.string x.got,.int .i64 code,.int .i64 0])w base(⟨qi,qn,ps,some⟨gs,0,none⟩,pC,ss,sA,sC,es,eA,eC,bs,bA,bC,fs,fA,fC,ts,tA,tC⟩:PartD) #[.int .i64 x.id,.int .i64 x.prio,.slice x.progA x.prog.length x.progC,.int .i64 0,.int .i64 0,.int .i64 0,.int .i64 0,.int .i64 0,.string⟨#[]⟩,.string x.got,.int .i64 code,.int .i64 0]):=by
   refine⟨(setRow_other _ _ _ _(by omega)).trans H5.out.1,(setRow_other _ _ _ _(by omega)).trans H5.out.2.1,setRow_heap _ _ _ _ _ _ H5.out.2.2.1,H5.out.2.2.2.1.same fun g hg=>setRow_other _ _ _ _(by have:=PBK.out g hg; omega),below_setRow H5.out.2.2.2.2(by omega)_⟩
  clear hb5 H6
  obtain⟨m0,m1,m2,m3,m4,m5,m6,m7⟩:=H8.out.1.cells
  obtain⟨r0,r1,r2,r3,r4,r5,r6,r7,r8,r9,r10,r11⟩:=proc_cells(x:=(⟨restP(goneP code x.toProcP),x.progA,x.progC⟩:ProcD))H8.out.2.2.1
  have hz:=past_store(y:=(⟨restP(goneP code x.toProcP),x.progA,x.progC⟩:ProcD))(vs:=(#[.int .i64 x.id,.int .i64 x.prio,.slice x.progA x.prog.length x.progC,.int .i64 0,.int .i64 0,.int .i64 0,.int .i64 0,.int .i64 0,.string⟨#[]⟩,.string x.got,.int .i64 code,.int .i64 0] :Array Value).toList)H8.out.1 H8.out.2.1(Array.getElem?_eq_some_iff.1 H8.out.2.2.1).1 H8.out.2.2.2.1 H8.out.2.2.2.2 HC.out.1 rfl HC.out.2.2.2.1 HC.out.2.1 HC.out.2.2.1 PBK.out rfl⟨rfl,rfl,rfl⟩
  have hth:=hz.1
  have HZ:Hid(_):=hz.2
  clear hz
  simp only [restP,goneP] at r0 r1 r2 r3 r4 r5 r6 r7 r8 r9 r10 r11
  dsimp only
  repeat (first | (go_big_may; first | (refine wpList_store_row rfl 43(Operand.tmp 7)(Operand.tmp 31)rfl(w.heap.size+1+1)_ _ #[.int .i64 x.id,.int .i64 x.prio,.slice x.progA x.prog.length x.progC,.int .i64 0,.int .i64 0,.int .i64 0,.int .i64 0,.int .i64 0,.string⟨#[]⟩,.string x.got,.int .i64 code,.int .i64 0] rfl rfl H5.out.2.2.1(by kernel_rfl)rfl(by kernel_rfl) ?_) | (refine wpList_store_mid rfl 43(Operand.tmp 36)(Operand.tmp 35)rfl gs(n * 12) #[.int .i64 x.id,.int .i64 x.prio,.slice x.progA x.prog.length x.progC,.int .i64 0,.int .i64 0,.int .i64 0,.int .i64 0,.int .i64 0,.string⟨#[]⟩,.string x.got,.int .i64 code,.int .i64 0] rfl rfl ?ht(by kernel_rfl)(by kernel_rfl) ?_)) | go_values | go_skip | go_guarded | go_step | go_upon)
  case ht=>exact hth
  clear hth m0 m1 m2 m3 m4 m5 m6 m7 r0 r1 r2 r3 r4 r5 r6 r7 r8 r9 r10 r11
  generalize World.setCells(w5.setRow(w.heap.size+1+1) #[.int .i64 x.id,.int .i64 x.prio,.slice x.progA x.prog.length x.progC,.int .i64 0,.int .i64 0,.int .i64 0,.int .i64 0,.int .i64 0,.string⟨#[]⟩,.string x.got,.int .i64 code,.int .i64 0])gs(n * 12)(#[.int .i64 x.id,.int .i64 x.prio,.slice x.progA x.prog.length x.progC,.int .i64 0,.int .i64 0,.int .i64 0,.int .i64 0,.int .i64 0,.string⟨#[]⟩,.string x.got,.int .i64 code,.int .i64 0] :Array Value).toList=WZ at *
  obtain⟨k0,k1,k2,k3,k4,k5,k6,k7⟩:=HZ.out.2.1.cells
  go_wp2_with (refine stP 6 37(w.heap.size+1) #[.int .i64 qi,.int .i64 qn,.slice(some⟨gs,0,none⟩)ps.length pC,.slice sA ss.length sC,.slice eA es.length eC,.slice bA bs.length bC,.slice fA fs.length fC,.slice tA ts.length tC] HZ.out.2.2.1 ?_)
  refine rtP Tryz.results219(w.heap.size+1) #[.int .i64 qi,.int .i64 qn,.slice(some⟨gs,0,none⟩)ps.length pC,.slice sA ss.length sC,.slice eA es.length eC,.slice bA bs.length bC,.slice fA fs.length fC,.slice tA ts.length tC] HZ.out.2.2.1 ?_
  rw [PE.out]
  exact⟨rfl,HZ.out.1.same fun g hg=>setRow_other _ _ _ _(HZ.out.2.2.2.2.1 g hg),below_setRow HZ.out.2.2.2.1(by have:=HC.out.2.2.2.1; omega)_,HZ.out.2.2.2.2.2.more(below_setRow(Below.refl _ _)(by omega)_)⟩
 ·have PE:Hid(pastD code x=(⟨goneP code x.toProcP,x.progA,x.progC⟩:ProcD)):=by show pastD code x=_; unfold pastD pastP; rw [if_neg hlen]
  have e1:(x.pc+1 == (x.prog.length:Int))=false:=by simp [hlen]
  clear hlen n1
  obtain⟨m0,m1,m2,m3,m4,m5,m6,m7⟩:=H6.out.1.cells
  obtain⟨r0,r1,r2,r3,r4,r5,r6,r7,r8,r9,r10,r11⟩:=proc_cells(x:=(⟨goneP code x.toProcP,x.progA,x.progC⟩:ProcD))H6.out.2.2.1
  have hz:=past_store(y:=(⟨goneP code x.toProcP,x.progA,x.progC⟩:ProcD))(vs:=(#[.int .i64 x.id,.int .i64 x.prio,.slice x.progA x.prog.length x.progC,.int .i64 1,.int .i64(x.pc+1),.int .i64 0,.int .i64 0,.int .i64 0,.string⟨#[]⟩,.string x.got,.int .i64 code,.int .i64 x.since] :Array Value).toList)H6.out.1 H6.out.2.1(Array.getElem?_eq_some_iff.1 H6.out.2.2.1).1 H6.out.2.2.2.1 H6.out.2.2.2.2 HC.out.1 rfl HC.out.2.2.2.1 HC.out.2.1 HC.out.2.2.1 PBK.out rfl⟨rfl,rfl,rfl⟩
  have hth:=hz.1
  have HZ:Hid(_):=hz.2
  clear hz
  simp only [goneP] at r0 r1 r2 r3 r4 r5 r6 r7 r8 r9 r10 r11
  repeat (first | (go_big_may; first | (refine wpList_store_mid rfl 43(Operand.tmp 36)(Operand.tmp 35)rfl gs(n * 12) #[.int .i64 x.id,.int .i64 x.prio,.slice x.progA x.prog.length x.progC,.int .i64 1,.int .i64(x.pc+1),.int .i64 0,.int .i64 0,.int .i64 0,.string⟨#[]⟩,.string x.got,.int .i64 code,.int .i64 x.since] rfl rfl ?ht(by kernel_rfl)(by kernel_rfl) ?_)) | go_values | go_skip | go_guarded | go_step | go_upon)
  case ht=>exact hth
  clear hth m0 m1 m2 m3 m4 m5 m6 m7 r0 r1 r2 r3 r4 r5 r6 r7 r8 r9 r10 r11
  generalize World.setCells _ gs(n * 12)(#[.int .i64 x.id,.int .i64 x.prio,.slice x.progA x.prog.length x.progC,.int .i64 1,.int .i64(x.pc+1),.int .i64 0,.int .i64 0,.int .i64 0,.string⟨#[]⟩,.string x.got,.int .i64 code,.int .i64 x.since] :Array Value).toList=WZ at *
  obtain⟨k0,k1,k2,k3,k4,k5,k6,k7⟩:=HZ.out.2.1.cells
  go_wp2_with (refine stP 6 37(w.heap.size+1) #[.int .i64 qi,.int .i64 qn,.slice(some⟨gs,0,none⟩)ps.length pC,.slice sA ss.length sC,.slice eA es.length eC,.slice bA bs.length bC,.slice fA fs.length fC,.slice tA ts.length tC] HZ.out.2.2.1 ?_)
  refine rtP Tryz.results219(w.heap.size+1) #[.int .i64 qi,.int .i64 qn,.slice(some⟨gs,0,none⟩)ps.length pC,.slice sA ss.length sC,.slice eA es.length eC,.slice bA bs.length bC,.slice fA fs.length fC,.slice tA ts.length tC] HZ.out.2.2.1 ?_
  rw [PE.out]
  exact⟨rfl,HZ.out.1.same fun g hg=>setRow_other _ _ _ _(HZ.out.2.2.2.2.1 g hg),below_setRow HZ.out.2.2.2.1(by have:=HC.out.2.2.2.1; omega)_,HZ.out.2.2.2.2.2.more(below_setRow(Below.refl _ _)(by omega)_)⟩
theorem place_store {W w:World} {base gs n:Nat} {q:PartD} {x:ProcD} {nx:Int} (h1:PartBox W w.heap.size q)(h2:W.heap[w.heap.size+1]? =some(.cells zero8 32(0,0)))(h4:PartOwn W base q)(h5:Below w.heap.size w W)
  (hx:q.procs[n]? =some x)(ha:q.procA=some⟨gs,0,none⟩)(hb:base≤w.heap.size)(hg1:base≤gs)(hg2:gs < w.heap.size)(hbk: ∀ g∈q.blocks,g < w.heap.size):
  ((∃ u,W.cell? ⟨gs,n * 12+11,none⟩=some u)∧W.frozen? ⟨gs,n * 12+11,none⟩=false)∧PartOwn(W.setCell⟨gs,n * 12+11,none⟩(.int .i64 nx))base({ q with procs:=q.procs.set n { x with since:=nx } } :PartD)∧PartBox(W.setCell⟨gs,n * 12+11,none⟩(.int .i64 nx))w.heap.size q∧(W.setCell⟨gs,n * 12+11,none⟩(.int .i64 nx)).heap[w.heap.size+1]? =some(.cells zero8 32(0,0))∧Below base w(W.setCell⟨gs,n * 12+11,none⟩(.int .i64 nx))∧(∀ g∈({ q with procs:=q.procs.set n { x with since:=nx } } :PartD).blocks,g < w.heap.size)∧KeptBut w(W.setCell⟨gs,n * 12+11,none⟩(.int .i64 nx)) [gs] :=by
 have hn:n < q.procs.length:=(List.getElem?_eq_some_iff.1 hx).1
 have hc:(∃ u,W.cell? ⟨gs,n * 12+11,none⟩=some u)∧W.frozen? ⟨gs,n * 12+11,none⟩=false:=by
  obtain⟨g,hg,hrow⟩:=RowAt.of_owns(K:=procK)h4.procs(by omega)
  rw [ha] at hg
  cases hg
  exact⟨⟨_,(hrow.cell hx(r:=11)(by decide)).1⟩,(hrow.cell hx(r:=11)(by decide)).2⟩
 have h7:=h4.setProc(n:=n)(j:=11)(x:=x)(y:= { x with since:=nx })(vs:= [.int .i64 nx])hx ha⟨rfl,rfl,rfl⟩(by show 11+1≤12; omega)(fun r hr=>by match r,hr with | 0,_=>rfl)(fun r hr hn=>by
  have hne:r≠11:=fun e=>hn⟨by omega,by show r < 11+1; omega⟩
  match r,hr,hne with | 0,_,_=>rfl | 1,_,_=>rfl | 2,_,_=>rfl | 3,_,_=>rfl | 4,_,_=>rfl | 5,_,_=>rfl | 6,_,_=>rfl | 7,_,_=>rfl | 8,_,_=>rfl | 9,_,_=>rfl | 10,_,_=>rfl | 11,_,hne=>exact absurd rfl hne)
 simp only [setAllW] at h7
 have l1:=(Array.getElem?_eq_some_iff.1 h2).1
 have hs: ∀ g,g≠gs→(W.setCell⟨gs,n * 12+11,none⟩(.int .i64 nx)).heap[g]? =W.heap[g]? :=fun g hg=>setCell_other hg
 exact⟨hc,h7.1,(hs _(by omega)).trans h1,(hs _(by omega)).trans h2,(h5.mono hb).trans(h7.2.1.below(by have:=h5.size; omega)(by simp; omega)),fun g hg=>hbk g(h7.2.2 ▸ hg),(KeptBut.of_below h5).trans h7.2.1⟩
theorem l4Place_kept(q:PartD)(n base:Nat)(x:ProcD)(w:World)(h:PartOwn w base q)(hb:base≤w.heap.size)(hx:q.procs[n]? =some x)(hn:0≤q.next∧q.next≤1000000000):
  Calls Tryz.prog 98 #[.agg q.cells,.int .i64 n] w fun e w'=> ∃ q2:PartD,e= .returned(.agg q2.cells)∧q2= { q with next:=q.next+1,procs:=q.procs.set n { x with since:=q.next } } ∧PartOwn w' base q2∧Below base w w'∧KeptBut w w'(blk q.procA):=by
 obtain⟨gs,ha,-⟩:=proc_at h.at.1 hx
 have hgs:=own_lt h.procs(g:=gs)(by rw [ha]; simp [blk])
 have hnl:n < q.procs.length:=(List.getElem?_eq_some_iff.1 hx).1
 have b1:Below w.heap.size w((w.alloc(.cells q.cells 32)).alloc(.cells zero8 32)):=alloc2_below _ _ _
 have h2:=alloc2_facts w(.cells q.cells 32)(.cells zero8 32)
 have hz:=place_store(nx:=q.next)h2.1 h2.2(h.below b1)b1 hx ha hb hgs.1 hgs.2 fun g hg=>(h.lt g hg).2
 obtain⟨⟨⟨u,c11⟩,f11⟩,hz⟩:=hz
 have H2:Hid(_):=hz
 have HB:Hid(PartBox((w.alloc(.cells q.cells 32)).alloc(.cells zero8 32))w.heap.size q∧base≤w.heap.size∧q.procA=some⟨gs,0,none⟩):=⟨h2.1,hb,ha⟩
 have H3:Hid((((w.alloc(.cells q.cells 32)).alloc(.cells zero8 32)).setCell⟨gs,n * 12+11,none⟩(.int .i64 q.next)).setCell⟨w.heap.size,1,none⟩(.int .i64(q.next+1)) |> fun W=>PartBox W w.heap.size { q with next:=q.next+1 } ∧W.heap[w.heap.size+1]? =some(.cells zero8 32(0,0))∧PartOwn W base { q with next:=q.next+1,procs:=q.procs.set n { x with since:=q.next } } ∧Below base w W∧(∀ g∈({ q with procs:=q.procs.set n { x with since:=q.next } } :PartD).blocks,g < w.heap.size)∧KeptBut w W [gs]):=by
  have ho:=hz.1.same(w':=(((w.alloc(.cells q.cells 32)).alloc(.cells zero8 32)).setCell⟨gs,n * 12+11,none⟩(.int .i64 q.next)).setCell⟨w.heap.size,1,none⟩(.int .i64(q.next+1)))fun g hg=>setCell_other(by have:=hz.2.2.2.2.1 g hg; omega)
  exact⟨setCell_block(i:=1)(v:= .int .i64(q.next+1))hz.2.1,(setCell_other(by omega)).trans hz.2.2.1,⟨ho.procs,ho.sems,ho.events,ho.boards,ho.buffers,ho.ports,ho.mineP,ho.mineF,ho.mineQ,ho.nodup⟩,below_setCell hz.2.2.2.1 hb,hz.2.2.2.2.1,hz.2.2.2.2.2.more(below_setCell(Below.refl _ _)(Nat.le_refl _))⟩
 have k1f:(((w.alloc(.cells q.cells 32)).alloc(.cells zero8 32)).setCell⟨gs,n * 12+11,none⟩(.int .i64 q.next)).frozen? ⟨w.heap.size,1,none⟩=false:=frozen_of_row _ _ _ _ _ hz.2.1
 have k1:=hz.2.1.cells.2.1
 obtain⟨-,m1,m2,-⟩:=h2.1 |> PartBox.cells(p:=q)
 obtain⟨r0,r1,r2,r3,r4,r5,r6,r7⟩:=H3.out.1.cells
 have j0:(0:Int)≤(n:Int):=by omega
 have j1:(n:Int) < (q.procs.length:Int):=by omega
 obtain⟨n0,n1⟩:=hn
 clear h hb hx b1 h2 hz hgs hnl
 rw [ha] at m2
 unfold PartD.cells at *
 simp only [HB.out.2.2] at *
 go_enter Tryz.func98,Tryz.ntmps98
 go_wp2_with (refine stP 4 16(w.heap.size+1) #[.int .i64 q.id,.int .i64(q.next+1),.slice(some⟨gs,0,none⟩)q.procs.length q.procC,.slice q.semA q.sems.length q.semC,.slice q.eventA q.events.length q.eventC,.slice q.boardA q.boards.length q.boardC,.slice q.bufferA q.buffers.length q.bufferC,.slice q.portA q.ports.length q.portC] H3.out.2.1 ?_)
 refine rtP Tryz.results98(w.heap.size+1) #[.int .i64 q.id,.int .i64(q.next+1),.slice(some⟨gs,0,none⟩)q.procs.length q.procC,.slice q.semA q.sems.length q.semC,.slice q.eventA q.events.length q.eventC,.slice q.boardA q.boards.length q.boardC,.slice q.bufferA q.buffers.length q.bufferC,.slice q.portA q.ports.length q.portC] H3.out.2.1 ?_
 have hb:=HB.out.2.1
 refine⟨_,?_,rfl,H3.out.2.2.1.same fun g hg=>setRow_other _ _ _ _(by have:=H3.out.2.2.2.2.1 g hg; omega),below_setRow H3.out.2.2.2.1(by omega)_,?_⟩
 ·simp only [List.length_set]
 ·exact H3.out.2.2.2.2.2.more(below_setRow(Below.refl _ _)(by omega)_)
end Go.Proofs.YtkbcplnlehdjfaaGreat
