/- What the proof leans on, part 14. -/
import Derived.Test.YtfncpmaefninjaaGreatDoorOwnT10
set_option linter.all false
set_option maxRecDepth 100000
set_option maxHeartbeats 8000000
open Go.IntKind renaming i64->j_
open Option renaming some->o_,none->n_
open Function renaming comp_def->Ls
open List renaming length_cons->Lg,length_nil->K4

open Go.RowKit renaming Hid->bE
namespace Go.Proofs.YtfncpmaefninjaaGreatDoor
def sr {α:Type} {num:α->Int} {ok:α->Bool} : ∀ {l:List α} {last:Int},(∀ x∈l,cv (num x) 1 1000=true/\ok x=true)->(∀ x∈l,last < num x)->l.Pairwise (fun x y=>num x < num y)->aw num ok last l=true
 | [],_,_,_,_=>rfl
 | x :: r,last,h1,h2,h3=>by
  obtain ⟨h4,h5⟩:=LM.1 h3;simp only [aw,J7,decide_eq_true_eq];exact ⟨⟨⟨(h1 x zw).1,h2 x zw⟩,(h1 x zw).2⟩,sr (fun y hy=>h1 y Zdx) h4 h5⟩
def nj {α:Type} {num:α->Int} {ok:α->Bool} {l:List α} {last id:Int} {f:α->α} (h:aw num ok last l=true) (hf: ∀ x,num (f x)=num x) (ho: ∀ x∈l,num x=id->ok (f x)=true):aw num ok last (jP num id f l)=true:=by
 obtain ⟨h1,h2⟩:=db h;have h3:=cK h;have e: ∀ z:α,num (if num z=id then f z else z)=num z:=fun z=>by split <;> simp [hf]
 refine sr (fun y hy=> ?_) (fun y hy=> ?_) ?_
 .obtain ⟨z,hz,rfl⟩:=Lr.1 hy
  refine ⟨by rw [e]; exact (h3 z hz).1,?_⟩
  split
  .exact ho z hz ‹_›
  .exact (h3 z hz).2
 .obtain ⟨z,hz,rfl⟩:=Lr.1 hy
  rw [e]; exact h1 z hz
 .unfold jP
  rw [Qm];exact h2.imp fun {a b} hab=>by rw [e,e]; exact hab
def vN {α:Type} {num:α->Int} {id:Int} {f:α->α} (hf: ∀ x,num (f x)=num x) (l:List α):(jP num id f l).map num=l.map num:=by
 unfold jP;rw [Lv];refine Lw fun z _=> ?_
 simp only [Ls]
 split <;> simp [hf]
section
variable {p:aE}
def aQ.proc (h:aQ p) {x:aD} (hx:x∈p.L8):cv x.id 1 1000=true/\cH x=true/\fF p.next x=true/\dG p x=true:=by
 obtain ⟨h1,h2⟩:=cK h.L8 x hx;simp only [J7] at h2;exact ⟨h1,h2.1.1,h2.1.2,h2.2⟩
def aQ.kW (h:aQ p):p.L8.Pairwise (fun x y=>x.id < y.id):=(db h.L8).2
def aQ.ju {id nx:Int} {f:aD->aD} (h:aQ p) (hid: ∀ x,(f x).id=x.id) (hn:p.next<=nx/\nx<=1000000000)
  (hx: ∀ x∈p.L8,x.id=id->cH (f x)=true/\fF nx (f x)=true/\dG p (f x)=true/\((f x).RU=x.RU\/(f x).RU=0\/(f x).RU=p.next)):aQ { p with next:=nx,L8:=ce id f p.L8 } :=by
 have hnx:=bz.1 h.next;have e: ∀ z:aD,(if z.id=id then f z else z).id=z.id:=fun z=>by split <;> simp [hid]
 refine ⟨h.id,(show cv nx 1 1000000000=true from eB zo hn.2),by simpa [ce] using h.dl,h.fx,h.cD,h.cC,h.cb,h.dH,?_,h.aj,h.L9,h.ag,h.ae,h.ai,?_⟩
 .obtain ⟨h1,h2⟩:=db h.L8
  refine sr (fun y hy=> ?_) (fun y hy=> ?_) ?_
  .obtain ⟨z,hz,rfl⟩:=Lr.1 hy
   refine ⟨by rw [e]; exact (h.proc hz).1,?_⟩;simp only [J7]
   split
   .rename_i hi
    obtain ⟨k1,k2,k3,-⟩:=hx z hz hi;exact ⟨⟨k1,k2⟩,k3⟩
   .obtain ⟨-,k1,k2,k3⟩:=h.proc hz
    refine ⟨⟨k1,?_⟩,k3⟩;unfold fF at k2 ⊢;simp only [Kb,decide_eq_true_eq] at k2 ⊢;rcases k2 with k2 | k2
    .exact .inl k2
    .have:=bz.1 k2; exact .inr (eB zo (by show _<=nx - 1; omega))
  .obtain ⟨z,hz,rfl⟩:=Lr.1 hy
   rw [e]; exact h1 z hz
  .show (ce id f p.L8).Pairwise _
   exact rW hid h2
 .have hs: ∀ z∈p.L8,z.RU < p.next/\0<=z.RU:=fun z hz=>by
   obtain ⟨-,k1,k2,-⟩:=h.proc hz;by_cases h0:z.Md=0
   .have:=kx k1 h0; omega
   .unfold fF at k2
    simp only [Kb,decide_eq_true_eq,h0,false_or] at k2
    have:=bz.1 k2; omega
  have ha:=h.apart;unfold rb at ha ⊢
  show ((ce id f p.L8).map (·.RU)).Pairwise _
  unfold ce;rw [Lv,Qm];rw [Qm] at ha;refine List.Pairwise.imp_of_mem (fun {a b} ham wU hab=> ?_) (ha.and h.kW);obtain ⟨h1,h2⟩:=hab;have sa:=hs a ham;have sb:=hs b wU;simp only [Ls];by_cases ea:a.id=id
  .rw [if_pos ea,if_neg zo]
   obtain ⟨-,-,-,k⟩:=hx a ham ea;rintro ⟨u,v⟩;rcases k with k | k | k
   .rw [k] at u; exact h1 ⟨u,v⟩
   .omega
   .omega
  .rw [if_neg ea]
   by_cases eb:b.id=id
   .rw [if_pos eb]
    obtain ⟨-,-,-,k⟩:=hx b wU eb;rintro ⟨u,v⟩;rcases k with k | k | k
    .rw [k] at u v; exact h1 ⟨u,v⟩
    .omega
    .omega
   .rw [if_neg eb]; exact h1
def aQ.GD {l:List bD} (h:aQ p) (hi:l.map (·.id)=p.aj.map (·.id)) (hr:aw (·.id) gw 0 l=true):aQ { p with aj:=l } :=by
 have hw:dG { p with aj:=l } =dG p:=by funext x; simp only [dG,hasB,hi]
 have hl:l.length=p.aj.length:=by simpa using congrArg List.length hi
 exact ⟨h.id,h.next,h.dl,by show l.length<=5; rw [hl]; exact h.fx,h.cD,h.cC,h.cb,h.dH,by rw [hw]; exact h.L8,hr,h.L9,h.ag,h.ae,h.ai,h.apart⟩
def aQ.Cz {l:List aB} (h:aQ p) (hi:l.map (·.id)=p.L9.map (·.id)) (hr:aw (·.id) ey 0 l=true):aQ { p with L9:=l } :=by
 have hw:dG { p with L9:=l } =dG p:=by funext x; simp only [dG,hasB,hi]
 have hl:l.length=p.L9.length:=by simpa using congrArg List.length hi
 exact ⟨h.id,h.next,h.dl,h.fx,by show l.length<=5; rw [hl]; exact h.cD,h.cC,h.cb,h.dH,by rw [hw]; exact h.L8,h.aj,hr,h.ag,h.ae,h.ai,h.apart⟩
def aQ.C5 {l:List az} (h:aQ p) (hi:l.map (·.id)=p.ag.map (·.id)) (hr:aw (·.id) cU 0 l=true):aQ { p with ag:=l } :=by
 have hw:dG { p with ag:=l } =dG p:=by funext x; simp only [dG,hasB,hi]
 have hl:l.length=p.ag.length:=by simpa using congrArg List.length hi
 exact ⟨h.id,h.next,h.dl,h.fx,h.cD,by show l.length<=5; rw [hl]; exact h.cC,h.cb,h.dH,by rw [hw]; exact h.L8,h.aj,h.L9,hr,h.ae,h.ai,h.apart⟩
def aQ.Cb {l:List ci} (h:aQ p) (hi:l.map (·.id)=p.ae.map (·.id)) (hr:aw (·.id) ct 0 l=true):aQ { p with ae:=l } :=by
 have hw:dG { p with ae:=l } =dG p:=by funext x; simp only [dG,hasB,hi]
 have hl:l.length=p.ae.length:=by simpa using congrArg List.length hi
 exact ⟨h.id,h.next,h.dl,h.fx,h.cD,h.cC,by show l.length<=5; rw [hl]; exact h.cb,h.dH,by rw [hw]; exact h.L8,h.aj,h.L9,h.ag,hr,h.ai,h.apart⟩
def aQ.Es {l:List dS} (h:aQ p) (hi:l.map (·.id)=p.ai.map (·.id)) (hr:aw (·.id) dj 0 l=true):aQ { p with ai:=l } :=by
 have hw:dG { p with ai:=l } =dG p:=by funext x; simp only [dG,hasB]
 have hl:l.length=p.ai.length:=by simpa using congrArg List.length hi
 exact ⟨h.id,h.next,h.dl,h.fx,h.cD,h.cC,h.cb,by show l.length<=5; rw [hl]; exact h.dH,by rw [hw]; exact h.L8,h.aj,h.L9,h.ag,h.ae,hr,h.apart⟩
end
def jY (x:aD):Bool:=cv x.RX 1 50 && jm x.prog && bw x.held && bw x.got && cv x.code 0 3
def fG (x:aD):cH x=(jY x && bO x):=rfl
def jX:bw rM=true:=by decide
def oB:bI rM=true:=by simp [bI,rM,PQ]
def iT {x:aD} (h:cH x=true) (h0: ¬ x.Md=0):0<=x.pc/\x.pc < x.prog.length:=by
 rw [fG,J7] at h;have h3:=h.2;unfold bO at h3;have h4:dU x=true:=by
  rw [if_neg h0] at h3
  split at h3
  .simp only [J7] at h3; exact h3.1.1.1.1
  .exact ZaJ
 have h5:=bz.1 h4;omega
def yG {l:List dN} (h:jm l=true) {i:Nat} {o:dN} (ho:l[i]? =o_ o):kc o=true:=by
 unfold jm nq at h;have h1:=(of_decide_eq_true h).2.2 i (Lj.1 ho).1;unfold j8 Cd Cg Ea Ce at h1;rw [ho] at h1;exact h1
def lK {l:List dN} (h:jm l=true):1<=l.length/\l.length<=20:=by
 unfold jm nq at h;have h1:=of_decide_eq_true h;exact ⟨h1.1,h1.2.1⟩
def mr {x:aD} (hp:jm x.prog=true) (hs:x.Md=1) (hc:0<=x.pc/\x.pc < x.prog.length) (hl:x.left=0) (hw:x.Mg=0) (ho:x.on=0) (hh:bI x.held=true):bO x=true:=by
 unfold bO;rw [if_neg zo,if_pos hs,hw,ho,hh];have h1:dU x=true:=eB hc.1 zo;have h2:jJ x=true:=by
  unfold jJ;rw [hl]
  split
  .rename_i hk
   unfold opAt at hk ⊢;have h3:x.pc.toNat < x.prog.length:=zo
   rw [Kz h3] at hk ⊢;simp only [Option.getD_some] at hk ⊢;have h4:=yG hp (Kz h3);unfold kc mQ at h4;rw [hk] at h4;have h5:cv (x.prog[x.pc.toNat]).2.1 1 1000=true:=by simp at h4; exact h4.1.1
   have:=bz.1 h5
   simp only [J7,decide_eq_true_eq];omega
  .rfl
 rw [h1,h2]; rfl
def vQ {x:aD} (h:jY x=true):cH (j7 x)=true:=by
 rw [fG,J7];constructor
 .unfold jY at h ⊢
  simp only [J7] at h ⊢;exact ⟨⟨⟨h.1.1.1,jX⟩,h.1.2⟩,h.2⟩
 .unfold bO j7
  simp [oB]
def vF {x:aD} {code s:Int} (h:jY x=true) (hc:cv code 0 3=true) (h0:0<=x.pc) (h1:x.pc+1 < x.prog.length):cH { jM code x with RU:=s } =true:=by
 rw [fG,J7];unfold jY at h ⊢;simp only [J7] at h ⊢;refine ⟨⟨⟨⟨h.1.1.1,jX⟩,h.1.2⟩,hc⟩,mr (x:= { jM code x with RU:=s }) h.1.1.1.2 rfl ⟨by show 0<=x.pc+1; omega,h1⟩ rfl rfl rfl oB⟩
section
variable {p:aE} {x:aD}
def iF (h:cH x=true):jY x=true:=by rw [fG,J7] at h; exact h.1
def vm {code:Int} (h:cH x=true) (h0: ¬ x.Md=0) (hc:cv code 0 3=true):cH (jT code x)=true:=by
 obtain ⟨h1,h2⟩:=iT h h0;unfold jT
 split
 .refine vQ ?_
  have h3:=iF h;unfold jY at h3 ⊢;simp only [J7] at h3 ⊢;exact ⟨⟨⟨h3.1.1.1,jX⟩,h3.1.2⟩,hc⟩
 .have:=vF (s:=x.RU) (iF h) hc h1 zo
  exact this
def AR {code nx:Int} (h:cH x=true) (h0: ¬ x.Md=0) (hc:cv code 0 3=true):cH (iY nx code x)=true:=by
 obtain ⟨h1,h2⟩:=iT h h0;unfold iY
 split
 .have:=vm (code:=code) h h0 hc
  unfold jT at this;rw [if_pos ‹_›] at this;exact this
 .exact vF (iF h) hc h1 zo
def zF {code id:Int} (h:aQ p) (h0: ∀ x∈p.L8,x.id=id-> ¬ x.Md=0) (hc:cv code 0 3=true):aQ (bu code id p):=by
 have hn:=bz.1 h.next;refine h.ju (nx:=p.next) (f:=jT code) (fun x=>by unfold jT; split <;> rfl) ⟨LJ _,hn.2⟩ fun x hx hi=> ?_
 obtain ⟨-,k1,k2,-⟩:=h.proc hx;have k0:=h0 x hx hi;refine ⟨vm k1 k0 hc,?_,?_,?_⟩
 .unfold fF at k2 ⊢
  simp only [Kb,decide_eq_true_eq,k0,false_or] at k2 ⊢;unfold jT
  split
  .exact .inl rfl
  .exact .inr k2
 .unfold dG
  rw [if_neg];unfold jT
  split <;> simp [j7,jM]
 .unfold jT
  split
  .exact .inr (.inl rfl)
  .exact .inl rfl
def lO {code:Int} {f:aD->aD} (h:aQ p) (hx:x∈p.L8) (h0: ¬ x.Md=0) (hc:cv code 0 3=true) (hf: ∀ y,(f y).id=y.id/\(f y).pc=y.pc/\(f y).prog=y.prog/\(f y).Md=y.Md) (hr:cH (f x)=true) (hn:p.next+1<=1000000000):
  aQ { p with next:=gf p.next x,L8:=ce x.id (fun y=>iY p.next code (f y)) p.L8 } :=by
 have hnx:=bz.1 h.next;have hw:gf p.next x=if (f x).pc+1=(f x).prog.length then p.next else p.next+1:=by unfold gf; rw [(hf x).2.1,(hf x).2.2.1]
 refine h.ju (f:=fun y=>iY p.next code (f y)) (fun y=>by rw [(rD _ _ _).1,(hf y).1]) ?_ fun y hy hi=> ?_
 .rw [hw]; split <;> omega
 .have e:y=x:=by
   exact C_
  subst e;have hs: ¬ (f y).Md=0:=by rw [(hf y).2.2.2]; exact h0
  refine ⟨AR hr hs hc,?_,?_,?_⟩
  .unfold fF
   rw [hw];simp only [Kb,decide_eq_true_eq];unfold iY
   split
   .exact .inl rfl
   .exact .inr (eB (by show 1<=p.next; omega) (by show p.next<=_; omega))
  .unfold dG
   rw [if_neg];unfold iY
   split <;> simp [j7,jM]
  .unfold iY
   split
   .exact .inr (.inl rfl)
   .exact .inr (.inr rfl)
def mU (nx:Int) (x:aD):nx<=gf nx x/\gf nx x<=nx+1:=by unfold gf; split <;> omega
def vd {bA:Int} (h:aQ p) (hx:lZ bA p.L8=o_ x) (hn:p.next+1<=1000000000):aQ (gu p x):=by
 obtain ⟨hm,hd⟩:=af9.mem hx;unfold og at hd;simp only [J7,decide_eq_true_eq] at hd;exact lO (f:=fun y=>y) h hm zo (by unfold mL; split <;> rfl) (fun _=>⟨rfl,rfl,rfl,rfl⟩) (h.proc hm).2.1 hn
def qI {bA:Int} : ∀ (n:Nat) (p:aE),aQ p->p.next+n<=1000000000->aQ (oO bA n p)/\p.next<=(oO bA n p).next/\(oO bA n p).next<=p.next+n
 | 0,p,h,_=>⟨h,by simp [oO]⟩
 | n+1,p,h,hn=>by
  unfold oO
  split
  .exact ⟨h,zo,zo⟩
  .rename_i x hx
   have h1:=vd h hx zo;have h2:(gu p x).next=gf p.next x:=rfl;have h3:=mU p.next x;obtain ⟨h4,h5,h6⟩:=qI n (gu p x) h1 zo;exact ⟨h4,zo,zo⟩
def ru {bA:Int} (h:aQ p) (hn:p.next<=999999990):aQ (gj bA p)/\p.next<=(gj bA p).next/\(gj bA p).next<=p.next+6:=by
 have h1:(lF bA p.L8).length<=p.L8.length:=Qq _ _;have h2:=h.dl;obtain ⟨h3,h4,h5⟩:=qI (bA:=bA) (lF bA p.L8).length p h zo;exact ⟨h3,h4,by unfold gj; omega⟩
def iQ {t:ByteArray} {id:Int} (h:aQ p) (ht:bw t=true):aQ (ez t id p):=by
 have hn:=bz.1 h.next;refine h.ju (nx:=p.next) (f:=lG t) (fun _=>rfl) ⟨LJ _,hn.2⟩ fun x hx _=> ?_
 obtain ⟨-,k1,k2,k3⟩:=h.proc hx;refine ⟨?_,k2,k3,.inl rfl⟩;exact Zbd
def i9 {f:aD->aD} (h:aQ p) (hx:x∈p.L8) (h0: ¬ x.Md=0) (hf:f=(fun y=>y)\/ ∃ t,bw t=true/\f=lG t) (hn:p.next+1<=1000000000):aQ (gF f p x):=by
 rcases hf with rfl | ⟨t,ht,rfl⟩
 .exact lO h hx h0 rfl (fun _=>⟨rfl,rfl,rfl,rfl⟩) (h.proc hx).2.1 hn
 .refine lO (f:=lG t) h hx h0 rfl (fun _=>⟨rfl,rfl,rfl,rfl⟩) ?_ hn
  have k1:=(h.proc hx).2.1;exact Zbd
def oU {f:aD->aD} {st on:Int} (hst: ¬ st=0) (hf:f=(fun y=>y)\/ ∃ t,bw t=true/\f=lG t): ∀ (n:Nat) (p:aE),aQ p->p.next+n<=1000000000->aQ (gW f st on n p)/\p.next<=(gW f st on n p).next/\(gW f st on n p).next<=p.next+n
 | 0,p,h,_=>⟨h,by simp [gW]⟩
 | n+1,p,h,hn=>by
  unfold gW
  split
  .exact ⟨h,zo,zo⟩
  .rename_i x hx
   obtain ⟨m1,m2,-⟩:=ft hx;have h1:=i9 (f:=f) h m1 zo hf zo;have h2:(gF f p x).next=gf p.next x:=rfl;have h3:=mU p.next x;obtain ⟨h4,h5,h6⟩:=oU hst hf n (gF f p x) h1 zo;exact ⟨h4,zo,zo⟩
def pP {f:aD->aD} {st on:Int} (hst: ¬ st=0) (hf:f=(fun y=>y)\/ ∃ t,bw t=true/\f=lG t) (h:aQ p) (hn:p.next<=999999990):aQ (ff f st on p)/\p.next<=(ff f st on p).next/\(ff f st on p).next<=p.next+6:=by
 have h1:(p.L8.filter (ie st on)).length<=p.L8.length:=Qq _ _;have h2:=h.dl;obtain ⟨h3,h4,h5⟩:=oU (on:=on) hst hf (p.L8.filter (ie st on)).length p h zo;exact ⟨h3,h4,by unfold ff; omega⟩
end
def empty_eq {s:ByteArray} (h:bI s=true):s=rM:=by
 have h1:s.data.toList= [] :=by simpa [bI,PQ] using h
 cases s with
 | mk d=>
  have:d= #[] :=Array.toList_eq_nil_iff.1 h1
  rw [this]; rfl
def afc (id:Int) (p:aE):Prop:= ∀ y∈p.L8,y.id=id->y.Md=1
def xr (id:Int) (p:aE):Prop:= ∀ y∈p.L8,y.id=id->y.Md=1/\y.left=0
section
variable {p:aE} {id:Int}
def xr.up (h:xr id p):afc id p:=fun y hy hi=>(h y hy hi).1
def afc.not (h:afc id p): ∀ y∈p.L8,y.id=id-> ¬ y.Md=0:=fun y hy hi=>by rw [h y hy hi]; decide
def afc.other {k nx:Int} {f:aD->aD} (h:afc id p) (hk: ¬ k=id) (hf: ∀ x,(f x).id=x.id):afc id { p with next:=nx,L8:=ce k f p.L8 } :=fun y hy hi=>by
 obtain ⟨z,hz,rfl⟩:=Lr.1 (show y∈ce k f p.L8 from hy)
 split at hi
 .rw [hf] at hi; omega
 .rw [if_neg ‹_›]; exact h z hz hi
def xr.got {t:ByteArray} {k:Int} (h:xr id p):xr id (ez t k p):=fun y hy hi=>by
 obtain ⟨z,hz,rfl⟩:=Lr.1 (show y∈ce k (lG t) p.L8 from hy)
 split at hi
 .rw [if_pos ‹_›]; exact h z hz hi
 .rw [if_neg ‹_›]; exact h z hz hi
def afc.Mg {f:aD->aD} {x:aD} (h:afc id p) (hx:x∈p.L8) (hs: ¬ x.Md=1) (hf: ∀ y,(f y).id=y.id):afc id (gF f p x):=
 afc.other h (fun e=>hs (h x hx e)) fun y=>by rw [(rD _ _ _).1,hf]
def afc.gW {f:aD->aD} {st on:Int} (hst: ¬ st=1) (hf: ∀ y,(f y).id=y.id): ∀ (n:Nat) (p:aE),afc id p->afc id (gW f st on n p)
 | 0,_,h=>h
 | n+1,p,h=>by
  unfold Go.Proofs.YtfncpmaefninjaaGreatDoor.gW
  split
  .exact h
  .rename_i x hx
   obtain ⟨m1,m2,-⟩:=ft hx;exact afc.gW hst hf n _ (h.Mg m1 zo hf)
def afc.ff {f:aD->aD} {st on:Int} (h:afc id p) (hst: ¬ st=1) (hf: ∀ y,(f y).id=y.id):afc id (ff f st on p):=afc.gW hst hf _ _ h
def D6 {code:Int} (h:aQ p) (hu:afc id p) (hc:cv code 0 3=true):aQ (bu code id p):=zF h hu.not hc
def sO {st on Mg:Int} {held:ByteArray} (h:aQ p) (hu:xr id p) (hn:p.next+1<=1000000000)
  (hs:st=2/\on=0/\bI held=true/\cv Mg 1 2000000000=true\/(st=5/\bw held=true\/(st=3\/st=4\/st=6\/st=7)/\bI held=true)/\lh Mg=true/\hasB p st on=true):aQ (kC st on held Mg id p):=by
 have hnx:=bz.1 h.next;refine h.ju (f:=zb p.next st on held Mg) (fun _=>rfl) ⟨zo,hn⟩ fun x hx hi=> ?_
 obtain ⟨hx1,hx2⟩:=hu x hx hi;obtain ⟨-,k1,k2,k3⟩:=h.proc hx;have hop:=iT k1 (by rw [hx1]; decide);have hb:=iF k1;have hh:bw held=true:=by
  rcases hs with hs | ⟨hs | hs,-⟩
  .rw [empty_eq hs.2.2.1]; rfl
  .exact hs.2
  .rw [empty_eq hs.2]; rfl
 have ho:dU (zb p.next st on held Mg x)=true:=eB hop.1 (by show x.pc<=(x.prog.length:Int) - 1; omega);have hst:bO (zb p.next st on held Mg x)=true:=by
  unfold bO;rw [ho]
  show (if st=0 then _ else if st=1 then _ else if st=2 then true && decide (x.left=0) && cv Mg 1 2000000000 && decide (on=0) && bI held else if st=5 then true && decide (x.left=0) && lh Mg else if st=3\/st=4\/st=6\/st=7 then true && decide (x.left=0) && lh Mg && bI held else false)=true
  rw [hx2];rcases hs with ⟨rfl,rfl,h3,h4⟩ | ⟨⟨rfl,h3⟩ | ⟨h3,h4⟩,h5,-⟩
  .simp [h3,h4]
  .simp [h5]
  .rcases h3 with rfl | rfl | rfl | rfl <;> simp [h4,h5]
 refine ⟨?_,?_,?_,.inr (.inr rfl)⟩
 .rw [fG,J7]
  refine ⟨?_,hst⟩;unfold jY at hb ⊢;simp only [J7] at hb ⊢;exact ⟨⟨⟨hb.1.1.1,hh⟩,hb.1.2⟩,hb.2⟩
 .unfold fF
  rw [Kb];exact ZaY
 .unfold dG
  show (if 3<=st then hasB p st on else true)=true
  rcases hs with ⟨rfl,-⟩ | ⟨-,-,h5⟩
  .rfl
  .split
   .exact h5
   .rfl
def Ha {st bA:Int} {o:dN} (h:aQ p) (hu:xr id p) (hn:p.next+1<=1000000000) (eu:0<=bA/\bA<=1000000000) (hm:cv o.2.2.1 (-1) 1000=true)
  (hs:st=5/\bw o.2.2.2=true\/(st=3\/st=4\/st=6\/st=7)/\bI o.2.2.2=true) (hh:hasB p st o.2.1=true):aQ (mX st o bA id p):=by
 have hm':=bz.1 hm;unfold mX
 split
 .exact D6 h hu.up rfl
 .refine sO h hu hn (.inr ⟨hs,?_,hh⟩)
  unfold lh kZ;rw [Kb]
  split
  .exact .inl (eB zo zo)
  .exact .inr zw
def IT {st bA:Int} {o:dN} :p.next<=(mX st o bA id p).next/\(mX st o bA id p).next<=p.next+1:=by
 unfold mX
 split
 .exact ⟨LJ _,by show p.next<=_; omega⟩
 .exact ⟨by show p.next<=p.next+1; omega,LJ _⟩
def mx {k d:Int} (h:aQ p) (hd: ∀ s∈p.aj,s.id=k->0<=s.n+d/\s.n+d<=s.max):aQ (nZ k d p):=
 h.GD Zdd (nj h.aj (fun _=>rfl) fun s hs hk=>by
  have h1:=(cK h.aj s hs).2;unfold gw at h1 ⊢;simp only [J7] at h1 ⊢;exact ⟨h1.1,eB (hd s hs hk).1 (hd s hs hk).2⟩)
def kw {k:Int} {b:Bool} (h:aQ p):aQ (gL k b p):=h.Cz Zdd (nj h.L9 (fun _=>rfl) fun _ _ _=>rfl)
def kA {k:Int} {b:Bool} {t:ByteArray} (h:aQ p) (ht:bw t=true) (hb:b=true\/bI t=true):aQ (ib k b t p):=
 h.C5 Zdd (nj h.ag (fun _=>rfl) fun s hs hk=>by
  unfold cU;simp only [J7,Kb];exact ⟨ht,hb⟩)
def lv {l:List ByteArray} {m:Int} :dJ l m=true↔(l.length:Int)<=m/\ ∀ t∈l,bw t=true:=by
 unfold dJ;simp [and_comm]
def gN {k:Int} {l:List ByteArray} (h:aQ p) (hl: ∀ b∈p.ae,b.id=k->(l.length:Int)<=b.max) (ht: ∀ t∈l,bw t=true):aQ (cV k l p):=
 h.Cb Zdd (nj h.ae (fun _=>rfl) fun s hs hk=>by
  have h1:=(cK h.ae s hs).2;unfold ct at h1 ⊢;simp only [J7] at h1 ⊢;exact ⟨h1.1,lv.2 ⟨hl s hs hk,ht⟩⟩)
def jj {k:Int} {l:List ByteArray} (h:aQ p) (hl: ∀ b∈p.ai,b.id=k->(l.length:Int)<=b.max) (ht: ∀ t∈l,bw t=true):aQ (gU k l p):=
 h.Es Zdd (nj h.ai (fun _=>rfl) fun s hs hk=>by
  have h1:=(cK h.ai s hs).2;unfold dj at h1 ⊢;simp only [J7] at h1 ⊢;exact ⟨h1.1,lv.2 ⟨hl s hs hk,ht⟩⟩)
def only {α:Type} {num:α->Int} {ok:α->Bool} {last k:Int} {l:List α} {x y:α} (h:aw num ok last l=true) (hx:cg num k l=o_ x) (hy:y∈l) (hk:num y=k):y=x:=by
 obtain ⟨h1,h2⟩:=ks hx;have h5:=(db h).2;rw [P8] at h5;obtain ⟨i,hi1,rfl⟩:=LK.1 hy;obtain ⟨j,DS,rfl⟩:=LK.1 h1;rcases P9 i j with hlt | heq | hgt
 .have:=h5 i j hi1 DS hlt; omega
 .subst heq; rfl
 .have:=h5 j i DS hi1 hgt; omega
def ul {α:Type} {num:α->Int} {k:Int} {l:List α} {x:α} (h:cg num k l=o_ x):decide (k∈l.map num)=true:=by
 obtain ⟨h1,h2⟩:=ks h;exact decide_eq_true (Lr.2 ⟨x,h1,h2⟩)
end
def dv {o:dN} (h:kc o=true):(1<=o.1/\o.1<=17)/\(¬ o.1=17->1<=o.2.1/\o.2.1<=1000)/\cv o.2.2.1 (-1) 1000=true/\bw o.2.2.2=true/\(¬ o.1=8-> ¬ o.1=10-> ¬ o.1=13->bI o.2.2.2=true):=by
 unfold kc mQ at h
 split at h
 .simp only [J7,decide_eq_true_eq] at h
  have h1:=bz.1 h.1.1;exact ⟨zo,fun _=>h1,by rw [h.1.2]; rfl,by rw [empty_eq h.2]; rfl,fun _ _ _=>h.2⟩
 .split at h
  .simp only [J7] at h
   have h1:=bz.1 h.1.1;exact ⟨zo,fun _=>h1,h.1.2,by rw [empty_eq h.2]; rfl,fun _ _ _=>h.2⟩
  .split at h
   .simp only [J7] at h
    have h1:=bz.1 h.1.1;exact ⟨zo,fun _=>h1,h.1.2,h.2,fun e _ _=>by omega⟩
   .split at h
    .simp only [J7,decide_eq_true_eq] at h
     have h1:=bz.1 h.1.1;exact ⟨zo,fun _=>h1,by rw [h.1.2]; rfl,h.2,fun _ e1 e2=>by omega⟩
    .split at h
     .simp only [J7,decide_eq_true_eq] at h
      exact ⟨zo,fun e=>by omega,by rw [h.1.2]; rfl,by rw [empty_eq h.2]; rfl,fun _ _ _=>h.2⟩
     .cases h
def n7 (n:Int):n<=n/\n<=n+7:=zo
def sS (p q:aE):Prop:=aQ q/\p.next<=q.next/\q.next<=p.next+7
section
variable {p:aE} {id bA:Int} {o:dN}
def cP {code:Int} {q:aE} (h:aQ q) (hu:afc id q) (hc:cv code 0 3=true) (hn:p.next<=q.next/\q.next<=p.next+7):sS p (bu code id q):=⟨D6 h hu hc,hn⟩
def B8 {st:Int} {q:aE} (h:aQ q) (hu:xr id q) (hq:q.next=p.next) (hn:p.next+1<=1000000000) (eu:0<=bA/\bA<=1000000000) (hm:cv o.2.2.1 (-1) 1000=true)
  (hs:st=5/\bw o.2.2.2=true\/(st=3\/st=4\/st=6\/st=7)/\bI o.2.2.2=true) (hh:hasB q st o.2.1=true):sS p (mX st o bA id q):=by
 have h1:=IT (p:=q) (id:=id) (st:=st) (bA:=bA) (o:=o);exact ⟨Ha h hu zo eu hm hs hh,zo,zo⟩
def pw {s:bD} (h:aQ p) (hf:cg (·.id) o.2.1 p.aj=o_ s):hasB p 3 o.2.1=true/\0<=s.n/\s.n<=s.max:=by
 refine ⟨ul hf,?_⟩;have h1:=(cK h.aj s (ks hf).1).2;unfold gw at h1;simp only [J7] at h1;exact bz.1 h1.2
def ji {b:ci} (h:aQ p) (hf:cg (·.id) o.2.1 p.ae=o_ b):hasB p 5 o.2.1=true/\hasB p 6 o.2.1=true/\(b.Ma.length:Int)<=b.max/\ ∀ t∈b.Ma,bw t=true:=by
 refine ⟨ul hf,ul hf,?_⟩;have h1:=(cK h.ae b (ks hf).1).2;unfold ct at h1;simp only [J7] at h1;exact lv.1 h1.2
def nB {q:dS} (h:aQ p) (hf:cg (·.id) o.2.1 p.ai=o_ q):1<=q.max/\(q.Ma.length:Int)<=q.max/\ ∀ t∈q.Ma,bw t=true:=by
 have h1:=(cK h.ai q (ks hf).1).2;unfold dj at h1;simp only [J7] at h1;exact ⟨(bz.1 h1.1.1).1,lv.1 h1.2⟩
def sX {b:az} (h:aQ p) (hf:cg (·.id) o.2.1 p.ag=o_ b):hasB p 7 o.2.1=true/\bw b.text=true:=by
 refine ⟨ul hf,?_⟩;have h1:=(cK h.ag b (ks hf).1).2;unfold cU at h1;simp only [J7] at h1;exact h1.1
def CO (h:aQ p) (hu:xr id p) (hn:p.next<=999999990) (ho:kc o=true) (hk:o.1=3) (eu:0<=bA/\bA<=1000000000):sS p (mh o bA id p):=by
 obtain ⟨f0,f1,f2,f3,f4⟩:=dv ho;unfold mh
 split
 .exact K_
 .rename_i s hs
  obtain ⟨k1,k2,k3⟩:=pw h hs
  split
  .exact B8 h hu rfl zo eu f2 (.inr ⟨.inl rfl,f4 zo zo zo⟩) k1
  .exact ZbW
def yH (h:aQ p) (hu:xr id p) (hn:p.next<=999999990):sS p (gJ o id p):=by
 unfold gJ
 split
 .exact K_
 .rename_i s hs
  obtain ⟨k1,k2,k3⟩:=pw h hs
  split
  .rename_i y hy
   obtain ⟨m1,m2,-⟩:=ft hy;have h3:=mU p.next y;exact cP (i9 h m1 zo (.inl rfl) zo) (hu.up.Mg m1 zo fun _=>rfl) rfl Zc7
  .split
   .exact K_
   .exact ZbW
def zn (h:aQ p) (hu:xr id p) (hn:p.next<=999999990) (ho:kc o=true) (hk:o.1=5\/o.1=6\/o.1=7) (eu:0<=bA/\bA<=1000000000):sS p (dE o bA id p):=by
 obtain ⟨f0,f1,f2,f3,f4⟩:=dv ho;unfold dE
 split
 .exact K_
 .rename_i e he
  split
  .have h1:=pP (on:=o.2.1) (f:=fun y=>y) (st:=4) (by decide) (.inl rfl) (kw (k:=o.2.1) (b:=true) h) hn
   have h2:(gL o.2.1 true p).next=p.next:=rfl;exact cP h1.1 (afc.ff (p:=gL o.2.1 true p) hu.up (by decide) fun _=>rfl) rfl zo
  .split
   .exact cP (kw h) hu.up rfl (n7 p.next)
   .split
    .exact K_
    .exact B8 h hu rfl zo eu f2 (.inr ⟨.inr (.inl rfl),f4 zo zo zo⟩) (ul he)
def Dg (h:aQ p) (hu:xr id p) (hn:p.next<=999999990) (ho:kc o=true) (eu:0<=bA/\bA<=1000000000):sS p (lc o bA id p):=by
 obtain ⟨f0,f1,f2,f3,f4⟩:=dv ho;unfold lc
 split
 .exact K_
 .rename_i b hb
  obtain ⟨k1,k2,k3,k4⟩:=ji h hb
  split
  .rename_i y hy
   obtain ⟨m1,m2,-⟩:=ft hy;have h3:=mU p.next y;exact cP (i9 h m1 zo (.inr ⟨_,f3,rfl⟩) zo) (hu.up.Mg m1 zo fun _=>rfl) rfl Zc7
  .split
   .exact B8 h hu rfl zo eu f2 (.inl ⟨rfl,f3⟩) k1
   .refine cP (gN h (fun y hy hk=> ?_) fun t ht=> ?_) hu.up rfl (n7 p.next)
    .rw [only h.ae hb hy hk,Lf]; simp only [Lg,K4]; omega
    .rcases Kg.1 ht with ht | ht
     .exact k4 t ht
     .exact ZbO
def Dd (h:aQ p) (hu:xr id p) (hn:p.next<=999999990) (ho:kc o=true) (hk:o.1=9) (eu:0<=bA/\bA<=1000000000):sS p (ka o bA id p):=by
 obtain ⟨f0,f1,f2,f3,f4⟩:=dv ho;unfold ka
 split
 .exact K_
 .rename_i b hb
  obtain ⟨k1,k2,k3,k4⟩:=ji h hb
  split
  .exact B8 (iQ h jX) hu.got rfl zo eu f2 (.inr ⟨.inr (.inr (.inl rfl)),f4 zo zo zo⟩) k2
  .rename_i t r hr
   rw [hr] at k3 k4;simp only [Lg] at k3;have hg:aQ (ez t id p):=iQ h (k4 t zw);have hg':xr id (ez t id p):=hu.got;have hgb:cg (·.id) o.2.1 (ez t id p).ae=o_ b:=hb
   split
   .refine cP (gN hg (fun y hy hk=> ?_) fun t ht=>k4 t (by simp [ht])) hg'.up rfl (n7 p.next)
    rw [only hg.ae hgb hy hk]; omega
   .rename_i y hy
    obtain ⟨m1,m2,-⟩:=ft hy;have h3:=mU p.next y;have hh:bw y.held=true:=by
     have h5:=iF (hg.proc m1).2.1;unfold jY at h5;simp only [J7] at h5;exact h5.1.1.2
    have hb2:aQ (cV o.2.1 (r ++ [y.held]) (ez t id p)):=gN hg (fun z hz hk=>by rw [only hg.ae hgb hz hk,Lf]; simp only [Lg,K4]; omega) fun s hs=>by
     rcases Kg.1 hs with hs | hs
     .exact k4 s (by simp [hs])
     .simp only [Kt,Ku,or_false] at hs; rw [hs]; exact hh
    exact cP (i9 hb2 m1 zo (.inl rfl) (by show p.next+1<=_; omega)) (afc.Mg (p:=cV o.2.1 (r ++ [y.held]) (ez t id p)) hg'.up m1 zo fun _=>rfl) rfl Zc7
def yv (h:aQ p) (hu:xr id p) (hn:p.next<=999999990) (ho:kc o=true) (hk:o.1=10\/o.1=11\/o.1=12) (eu:0<=bA/\bA<=1000000000):sS p (dC o bA id p):=by
 obtain ⟨f0,f1,f2,f3,f4⟩:=dv ho;unfold dC
 split
 .exact K_
 .rename_i b hb
  obtain ⟨k1,k2⟩:=sX h hb
  split
  .have h1:=pP (on:=o.2.1) (f:=lG o.2.2.2) (st:=7) (by decide) (.inr ⟨_,f3,rfl⟩) (kA (k:=o.2.1) (b:=true) h f3 (.inl rfl)) hn
   have h2:(ib o.2.1 true o.2.2.2 p).next=p.next:=rfl;exact cP h1.1 (afc.ff (p:=ib o.2.1 true o.2.2.2 p) hu.up (by decide) fun _=>rfl) rfl zo
  .split
   .exact cP (kA h jX (.inr oB)) hu.up rfl (n7 p.next)
   .split
    .exact cP (iQ h k2) hu.got.up rfl (n7 p.next)
    .exact B8 (iQ h k2) hu.got rfl zo eu f2 (.inr ⟨.inr (.inr (.inr rfl)),f4 zo zo zo⟩) k1
def By (h:aQ p) (hu:xr id p) (ho:kc o=true):sS p (ig o id p):=by
 obtain ⟨f0,f1,f2,f3,f4⟩:=dv ho;unfold ig
 split
 .exact K_
 .rename_i q hq
  obtain ⟨k1,k2,k3⟩:=nB h hq
  split
  .exact K_
  .split
   .refine cP (jj h (fun y hy hk=> ?_) fun t ht=> ?_) hu.up rfl (n7 p.next)
    .rw [only h.ai hq hy hk]; exact k1
    .exact ZbO
   .split
    .exact K_
    .refine cP (jj h (fun y hy hk=> ?_) fun t ht=> ?_) hu.up rfl (n7 p.next)
     .rw [only h.ai hq hy hk,Lf]; simp only [Lg,K4]; omega
     .rcases Kg.1 ht with ht | ht
      .exact k3 t ht
      .exact ZbO
def zO (h:aQ p) (hu:xr id p):sS p (gC o id p):=by
 unfold gC
 split
 .exact K_
 .rename_i q hq
  obtain ⟨k1,k2,k3⟩:=nB h hq
  split
  .exact K_
  .split
   .exact cP (iQ h jX) hu.got.up rfl (n7 p.next)
   .rename_i t r hr
    rw [hr] at k2 k3;simp only [Lg] at k2;have hg:aQ (ez t id p):=iQ h (k3 t zw);have hgb:cg (·.id) o.2.1 (ez t id p).ai=o_ q:=hq
    split
    .refine cP (jj hg (fun y hy hk=> ?_) fun t ht=>k3 t (by simp [ht])) hu.got.up rfl (n7 p.next)
     rw [only hg.ai hgb hy hk]; omega
    .exact cP hg hu.got.up rfl (n7 p.next)
def AO (h:aQ p) (hu:xr id p) (hn:p.next<=999999990):sS p (jU o id p):=by
 have hnx:=bz.1 h.next;unfold jU
 split
 .exact K_
 .rename_i y hy
  split
  .rename_i h0
   obtain ⟨m1,m2⟩:=ks hy;have hne: ¬ o.2.1=id:=fun e=>by have:=hu.up y m1 zo; omega
   refine cP (h.ju (nx:=p.next+1) (f:=fun y=> { y with Md:=1,RU:=p.next }) (fun _=>rfl) ⟨zo,zo⟩ fun z hz hi=> ?_) (hu.up.other hne fun _=>rfl) rfl (by show p.next<=p.next+1/\p.next+1<=p.next+7; omega);have e:=only h.L8 hy hz hi;subst e;obtain ⟨-,q1,q2,q3⟩:=h.proc hz;have q4:=iF q1;rw [fG,J7] at q1;have q5:=q1.2;unfold bO at q5;rw [if_pos h0] at q5;simp only [J7,decide_eq_true_eq] at q5;obtain ⟨⟨⟨⟨⟨a1,a2⟩,a3⟩,a4⟩,a5⟩,a6⟩:=q5;have q6:jm z.prog=true:=by
    unfold jY at q4;simp only [J7] at q4;exact q4.1.1.1.2
   refine ⟨?_,?_,rfl,.inr (.inr rfl)⟩
   .exact Zbn
   .unfold fF
    rw [Kb];exact ZaY
  .exact K_
def nG (h:aQ p) {k:Int} :aQ (ot k p):=by
 have hnx:=bz.1 h.next;refine h.ju (nx:=p.next) (f:=j7) (fun _=>rfl) ⟨LJ _,hnx.2⟩ fun z hz hi=> ?_
 exact ⟨vQ (iF (h.proc hz).2.1),rfl,rfl,.inr (.inl rfl)⟩
def Dr (h:aQ p) (hu:xr id p):sS p (lg o id p):=by
 unfold lg
 split
 .exact K_
 .split
  .exact K_
  .split
   .exact ⟨nG h,n7 p.next⟩
   .rename_i hne
    exact cP (nG h) (hu.up.other hne fun _=>rfl) rfl (n7 p.next)
end
def fK {P:aE->Prop} {c:Prop} [Decidable c] {a b:aE} (h1:c->P a) (h2: ¬ c->P b):P (if c then a else b):=by
 split
 .exact h1 ‹_›
 .exact h2 ‹_›
def AW {p:aE} {x:aD} {bA:Int} (h:aQ p) (hx:x∈p.L8) (hs:x.Md=1) (hn:p.next<=999999990) (eu:0<=bA/\bA<=1000000000):kc (opAt x)=true/\sS p (lX bA x (opAt x) p):=by
 obtain ⟨-,k1,k2,k3⟩:=h.proc hx;have hnx:=bz.1 h.next;have hop:=iT k1 (by rw [hs]; decide);have hb:=iF k1;have hpl:jm x.prog=true:=by
  unfold jY at hb;simp only [J7] at hb;exact hb.1.1.1.2
 have hlt:x.pc.toNat < x.prog.length:=zo
 have hoa:opAt x=x.prog[x.pc.toNat] :=by unfold opAt; rw [Kz hlt]; rfl
 have ho:kc (opAt x)=true:=by rw [hoa]; exact yG hpl (Kz hlt)
 refine ⟨ho,?_⟩;have hst:dU x=true/\jJ x=true/\x.Mg=0/\x.on=0/\bI x.held=true:=by
  rw [fG,J7] at k1;have h3:=k1.2;unfold bO at h3;rw [if_neg zo,if_pos hs] at h3;simp only [J7,decide_eq_true_eq] at h3;exact ⟨h3.1.1.1.1,h3.1.1.1.2,h3.1.1.2,h3.1.2,h3.2⟩
 have hone: ∀ y∈p.L8,y.id=x.id->y=x:=fun y hy e=>by
  exact C_
 have hup:afc x.id p:=fun y hy e=>by rw [hone y hy e]; exact hs
 obtain ⟨f0,f1,f2,f3,f4⟩:=dv ho;have hl: ¬ (opAt x).1=1->xr x.id p:=fun hk y hy e=>by
  rw [hone y hy e];refine ⟨hs,?_⟩;have h4:=hst.2.1;unfold jJ at h4;rw [if_neg hk] at h4;exact of_decide_eq_true h4
 unfold lX;refine fK (P:=sS p) (fun hk=> ?_) (fun hk1=> ?_)
 .have h4:=hst.2.1
  unfold jJ at h4;rw [if_pos hk] at h4;simp only [J7,decide_eq_true_eq] at h4;have hN:=f1 zo;unfold GY;refine fK (P:=sS p) (fun _=> ?_) (fun hne=> ?_)
  .exact cP h hup rfl zo
  .refine ⟨h.ju (nx:=p.next) (f:=fun y=> { y with left:=(if x.left=0 then (opAt x).2.1 else x.left) - 1 }) (fun _=>rfl) ⟨LJ _,hnx.2⟩ fun z hz hi=> ?_,n7 p.next⟩
   rw [hone z hz hi];refine ⟨?_,k2,k3,.inl rfl⟩;rw [fG,J7];refine ⟨hb,?_⟩;unfold bO
   show (if x.Md=0 then _ else if x.Md=1 then dU x && jJ { x with left:=(if x.left=0 then (opAt x).2.1 else x.left) - 1 } && decide (x.Mg=0) && decide (x.on=0) && bI x.held else _)=true
   have h5:jJ { x with left:=(if x.left=0 then (opAt x).2.1 else x.left) - 1 } =true:=by
    unfold jJ
    show (if (opAt x).1=1 then decide (0<=(if x.left=0 then (opAt x).2.1 else x.left) - 1) && decide ((if x.left=0 then (opAt x).2.1 else x.left) - 1 < (opAt x).2.1) else _)=true
    rw [if_pos hk];simp only [J7,decide_eq_true_eq]
    split <;> omega
   rw [if_neg zo,if_pos hs,h5,hst.1,hst.2.2.1,hst.2.2.2.1,hst.2.2.2.2]; rfl
 .have hu:=hl hk1
  refine fK (P:=sS p) (fun hk=> ?_) (fun _=> ?_)
  .have hN:=f1 zo
   exact ⟨sO h hu zo (.inl ⟨rfl,rfl,oB,eB zo zo⟩),by show p.next<=p.next+1; omega,by show p.next+1<=_; omega⟩
  .refine fK (P:=sS p) (fun hk=> ?_) (fun _=> ?_)
   .exact CO h hu hn ho hk eu
   .refine fK (P:=sS p) (fun hk=> ?_) (fun _=> ?_)
    .clear hk; exact yH h hu hn
    .refine fK (P:=sS p) (fun hk=> ?_) (fun _=> ?_)
     .exact zn h hu hn ho hk eu
     .refine fK (P:=sS p) (fun hk=> ?_) (fun _=> ?_)
      .exact Dg h hu hn ho eu
      .refine fK (P:=sS p) (fun hk=> ?_) (fun _=> ?_)
       .exact Dd h hu hn ho hk eu
       .refine fK (P:=sS p) (fun hk=> ?_) (fun _=> ?_)
        .exact yv h hu hn ho hk eu
        .refine fK (P:=sS p) (fun hk=> ?_) (fun _=> ?_)
         .exact By h hu ho
         .refine fK (P:=sS p) (fun hk=> ?_) (fun _=> ?_)
          .exact zO h hu
          .refine fK (P:=sS p) (fun hk=> ?_) (fun _=> ?_)
           .exact AO h hu hn
           .refine fK (P:=sS p) (fun hk=> ?_) (fun _=> ?_)
            .exact Dr h hu
            .refine ⟨h.ju (nx:=p.next) (f:=fun y=> { y with pc:=0 }) (fun _=>rfl) ⟨LJ _,hnx.2⟩ fun z hz hi=> ?_,n7 p.next⟩
             rw [hone z hz hi];have h5:=hu x hx rfl;have h6:=lK hpl;refine ⟨?_,k2,k3,.inl rfl⟩;rw [fG,J7];exact ⟨hb,mr (x:= { x with pc:=0 }) hpl hs ⟨LJ _,by show (0:Int) < x.prog.length; omega⟩ h5.2 hst.2.2.1 hst.2.2.2.1 hst.2.2.2.2⟩
def DA {p:aE} {bA:Int} (h:aQ p) (hn:p.next<=999999980) (eu:0<=bA/\bA<=1000000000):aQ (mS bA p)/\p.next<=(mS bA p).next/\(mS bA p).next<=p.next+13:=by
 obtain ⟨h1,h2,h3⟩:=ru (bA:=bA) h zo;unfold mS
 split
 .exact ⟨h1,h2,zo⟩
 .rename_i x hx
  obtain ⟨m1,m2,-⟩:=ft hx;obtain ⟨-,h4,h5,h6⟩:=AW (bA:=bA) h1 m1 m2 zo eu;exact ⟨h4,zo,zo⟩
section
open Go.RowKit
def kv {s:ByteArray} (h:bw s=true):s.size<=1048576:=by
 unfold bw at h;simp only [J7,decide_eq_true_eq] at h;omega
def ta {p:aE} (h:aQ p):p.Small:=by
 have hid: ∀ {α:Type} {num:α->Int} {ok:α->Bool} {last:Int} {l:List α},aw num ok last l=true-> ∀ x∈l,(Lit.int j_ (num x)).wf=true/\ok x=true:=fun hl x hx=>by
  obtain ⟨h1,h2⟩:=cK hl x hx
  have:=bz.1 h1
  exact ⟨pT zo zo,h2⟩
 have hwf: ∀ {α:Type} {num:α->Int} {ok:α->Bool} {last k:Int} {l:List α},aw num ok last l=true->decide (k∈l.map num)=true->(Lit.int j_ k).wf=true:=fun hl hk=>by
  obtain ⟨x,hx,rfl⟩:=Lr.1 (of_decide_eq_true hk);exact (hid hl x hx).1
 refine ⟨by have:=h.dl; omega,by have:=h.fx; omega,by have:=h.cD; omega,by have:=h.cC; omega,by have:=h.cb; omega,by have:=h.dH; omega,fun x hx=> ?_,fun x hx=>(hid h.aj x hx).1,fun x hx=>(hid h.L9 x hx).1,fun x hx=> ?_,fun x hx=> ?_,fun x hx=> ?_⟩
 .obtain ⟨k0,k1,k2,k3⟩:=h.proc hx
  have hb:=iF k1;unfold jY at hb;simp only [J7] at hb;have hl:=lK hb.1.1.1.2;have hi:=bz.1 k0;have hnx:=bz.1 h.next;refine ⟨⟨zo,fun o ho=> ?_,kv hb.1.1.2,kv hb.1.2⟩,pT zo zo,?_,?_⟩
  .obtain ⟨i,hi1,hi2⟩:=LK.1 ho
   exact kv (dv (yG hb.1.1.1.2 (i:=i) (by rw [Kz hi1,hi2]))).2.2.2.1
  .unfold dG at k3
   by_cases h3:3<=x.Md
   .rw [if_pos h3] at k3
    unfold hasB at k3
    split at k3
    .exact hwf h.aj k3
    .split at k3
     .exact hwf h.L9 k3
     .split at k3
      .exact hwf h.ae k3
      .split at k3
       .exact hwf h.ag k3
       .cases k3
   .rw [fG,J7] at k1
    have k4:=k1.2;unfold bO at k4;have h0:x.on=0:=by
     split at k4
     .simp only [J7,decide_eq_true_eq] at k4; exact k4.1.1.2
     .split at k4
      .simp only [J7,decide_eq_true_eq] at k4; exact k4.1.2
      .split at k4
       .simp only [J7,decide_eq_true_eq] at k4; exact k4.1.2
       .split at k4
        .omega
        .split at k4
         .omega
         .cases k4
    rw [h0]; rfl
  .by_cases h0:x.Md=0
   .rw [kx k1 h0]; rfl
   .unfold fF at k2
    simp only [Kb,decide_eq_true_eq,h0,false_or] at k2
    have:=bz.1 k2
    exact pT zo zo
 .obtain ⟨k1,k2⟩:=hid h.ag x hx
  unfold cU at k2;simp only [J7] at k2;exact ⟨k1,kv k2.1⟩
 .obtain ⟨k1,k2⟩:=hid h.ae x hx
  unfold ct at k2;simp only [J7] at k2;have k3:=lv.1 k2.2;have k4:=bz.1 k2.1;exact ⟨k1,zo,fun s hs=>kv (k3.2 s hs)⟩
 .obtain ⟨k1,k2⟩:=hid h.ai x hx
  unfold dj at k2;simp only [J7] at k2;have k3:=lv.1 k2.2;have k4:=bz.1 k2.1.1;exact ⟨k1,zo,fun s hs=>kv (k3.2 s hs)⟩
def za {p:aE} {bA:Int} :((hZ p bA).getD cN).Small:=by
 unfold hZ
 split
 .rename_i h
  simp only [J7,decide_eq_true_eq] at h;exact ta (DA ((ch _).1 h.1.1) h.2 (bz.1 h.1.2)).1
 .exact hY
def agt {p q:aE} {bA:Int} (h:hZ p bA=o_ q):aQ q:=by
 unfold hZ at h
 split at h
 .rename_i h5
  simp only [J7,decide_eq_true_eq] at h5;rw [<- KC h];exact (DA ((ch _).1 h5.1.1) h5.2 (bz.1 h5.1.2)).1
 .cases h
end
def agL (bA:Int) (p:aE):Nat->Option aE
 | 0=>o_ p
 | n+1=>(agL bA p n).bind fun q=>hZ q (bA+n)
def agc (p:aE) (bA n:Int):Option aE:=if bK p && cv n 0 200 then agL bA p n.toNat else n_
section
variable {bA:Int} {p q:aE} {i n:Nat}
def ah6 (h:agL bA p i=n_) (hn:i<=n):agL bA p n=n_:=by
 induction n with
 | zero=>
  obtain rfl:i=0:=zo
  exact h
 | succ n ih=>
  rcases Nat.lt_or_ge n i with h5 | h5
  .obtain rfl:i=n+1:=zo
   exact h
  .show (agL bA p n).bind _=n_
   rw [ih h5];rfl
structure agI (bA:Int) (p:aE) (i:Nat) (q:aE):Prop where
 is:agL bA p i=o_ q
 right:aQ q
 akr:i=0\/0<=bA+i/\bA+i<=1000000001
def agI.start (h:aQ p):agI bA p 0 p:=⟨rfl,h,.inl rfl⟩
def agI.no (h:agI bA p i q) (hb:(cv (bA+i) 0 1000000000 && decide (q.next<=999999980))=false) (hn:i < n):agL bA p n=n_:=by
 refine ah6 (i:=i+1) ?_ hn
 show (agL bA p i).bind _=n_
 rw [h.is]
 show hZ q (bA+i)=n_
 unfold hZ;rw [Bool.and_assoc,hb,PP];rfl
def agI.next (h:agI bA p i q) (hb:(cv (bA+i) 0 1000000000 && decide (q.next<=999999980))=true):agI bA p (i+1) (mS (bA+i) q):=by
 have hb':=hb;rw [J7,decide_eq_true_eq] at hb';have h1:=bz.1 hb'.1;refine ⟨?_,(DA h.right hb'.2 h1).1,.inr zo⟩
 show (agL bA p i).bind _=_
 rw [h.is]
 show hZ q (bA+i)=_
 unfold hZ;rw [Bool.and_assoc,hb,(ch q).2 h.right];rfl
def ai5:agc p bA 1=hZ p bA:=by
 unfold agc;cases hp:bK p with
 | true=>
  show hZ p (bA+(0:Nat))=_
  rw [show bA+((0:Nat):Int)=bA by omega]
 | false=>
  unfold hZ;rw [hp];rfl
end
def xK: ∀ {l:List aD},jo l=n_->l= [] :=by
 intro l h;rcases List.eq_nil_or_concat l with rfl | ⟨r,x,rfl⟩
 .rfl
 .rw [List.concat_eq_append,ny] at h
  obtain ⟨y,hy⟩:=pN (jo r) x;rw [hy] at h; cases h
def Ei {x y b:aD} (h:dF x b=true) (hy:dF y b=false):dF y x=false:=by
 unfold dF at *
 split at h <;> split at hy <;> split <;> simp only [decide_eq_true_eq,decide_eq_false_iff_not] at * <;> omega
def uA (x:aD):dF x x=false:=by simp [dF]
def xC (n:Nat): ∀ (l:List aD) (b:aD),l.length=n->jo l=o_ b->b∈l/\ ∀ y∈l,dF y b=false:=by
 induction n with
 | zero=>intro l b hn h; cases l with | nil=>cases h | cons=>cases hn
 | succ n ih=>
  intro l b hn h;rcases List.eq_nil_or_concat l with rfl | ⟨r,x,rfl⟩
  .cases hn
  .rw [List.concat_eq_append] at h hn ⊢
   rw [ny] at h;have hr:r.length=n:=by simpa using hn
   cases hb:jo r with
   | none=>
    rw [hb] at h;obtain rfl:=xK hb;obtain rfl:x=b:=KC h;exact ⟨by simp,fun y hy=>by simp at hy; subst hy; exact uA _⟩
   | some c=>
    obtain ⟨h1,h2⟩:=ih r c hr hb;rw [hb] at h
    change (if dF x c=true then o_ x else o_ c)=o_ b at h
    by_cases ha:dF x c=true
    .rw [if_pos ha] at h
     obtain rfl:x=b:=KC h;refine ⟨by simp,fun y hy=> ?_⟩;rcases Kg.1 hy with hy | hy
     .exact Ei ha (h2 y hy)
     .simp at hy; subst hy; exact uA _
    .rw [if_neg ha] at h
     obtain rfl:c=b:=KC h;refine ⟨by simp [h1],fun y hy=> ?_⟩;rcases Kg.1 hy with hy | hy
     .exact h2 y hy
     .simp at hy; subst hy; simpa using ha
section
variable {bA n k:Int} {p q a:aE}
def alT (h:hZ p bA=o_ q):aQ p/\(0<=bA/\bA<=1000000000)/\p.next<=999999980/\q=mS bA p/\kk p bA=o_ (gj bA p):=by
 have h0:=h;unfold hZ at h
 split at h
 case isFalse=>cases h
 rename_i hc;simp only [J7,decide_eq_true_eq] at hc;refine ⟨(ch p).1 hc.1.1,bz.1 hc.1.2,hc.2,(KC h).symm,?_⟩;unfold kk;rw [hc.1.1,hc.1.2,decide_eq_true hc.2];rfl
def amr (hp:aQ p):jl 1 0 p.L8=jo (p.L8.filter fun x=>decide (x.Md=1)):=by
 unfold jl
 congr 1
 refine List.filter_congr fun x hx=> ?_
 unfold ie;by_cases h1:x.Md=1
 .have h2:=(hp.proc hx).2.1
  rw [fG,J7] at h2;have h3:=h2.2;unfold bO at h3;rw [if_neg zo,if_pos h1] at h3;simp only [J7,decide_eq_true_eq] at h3;simp [h1,h3.1.2]
 .simp [h1]
def amK (hp:aQ p) (h:da p=0):jl 1 0 p.L8=n_:=by
 rw [amr hp];unfold da nL at h;rw [(ch p).2 hp] at h;cases hb:jo (p.L8.filter fun x=>decide (x.Md=1)) with
 | none=>rfl
 | some b=>
  rw [hb] at h;have h5:=bz.1 (hp.proc (L2.1 (xC _ _ _ rfl hb).1).1).1;have h6:b.id=0:=h;omega
end
end Go.Proofs.YtfncpmaefninjaaGreatDoor
