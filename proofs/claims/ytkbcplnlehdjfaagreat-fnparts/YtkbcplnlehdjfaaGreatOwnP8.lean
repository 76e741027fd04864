/- What the proof leans on, part 8. -/
import Derived.Test.YtkbcplnlehdjfaaGreatOwnP7
set_option maxRecDepth 100000
set_option maxHeartbeats 8000000
open Array renaming getElem?_eq_some_iff->J2
open Bool renaming and_eq_true->J7,and_false->PP,false_eq_true->J5,false_or->Qg
open ByteArray renaming size_append->QH
open Go.Proofs.Tryz renaming func299->QP,ntmps299->QQ,prog->J3
open Go.RowKit.Below renaming refl->Kp
open List renaming all_eq_true->PZ,filter_cons->LN,getElem?_eq_getElem->Kz,getElem?_eq_some_iff->Lj,map_cons->Lt,mem_filter->L2,mem_map->Lr,nodup_cons->Lp,pairwise_cons->LM,take_succ_eq_append_getElem->QE
open Option.some renaming inj->KC

namespace Go.Proofs.YtkbcplnlehdjfaaGreat
section
open Go.RowKit
def rM:ByteArray:=⟨#[]⟩
def jm (l:List dN):Bool:=nq l.length (Cd l) (Cg l) (Ea l) (Ce l)
def gw (x:bD):Bool:=cv x.max 1 1000 && cv x.n 0 x.max
def ey (_:aB):Bool:=true
def cU (x:az):Bool:=bw x.text && (x.shown || bI x.text)
def ct (x:ci):Bool:=cv x.max 1 5 && dJ x.Ma x.max
def dj (x:dS):Bool:=cv x.max 1 5 && (x.Mf || decide (x.max=1)) && dJ x.Ma x.max
def aw {α:Type} (num:α→Int) (ok:α→Bool):Int→List α→Bool
 | _,[] =>true
 | last,x :: r=>cv (num x) 1 1000 && decide (last < num x) && ok x && aw num ok (num x) r
def bW {α:Type} (num:α→Int):Int→List α→Int
 | last,[] =>last
 | _,x :: r=>bW num (num x) r
section
variable {α:Type} {num:α→Int} {ok:α→Bool}
theorem lH: ∀ (l r:List α) (last:Int),aw num ok last (l ++ r)=(aw num ok last l && aw num ok (bW num last l) r)
 | [],r,last=>by simp [aw,bW]
 | x :: l,r,last=>by
  simp only [List.cons_append,aw,bW,lH l r (num x),Bool.and_assoc]
theorem pL: ∀ (l:List α) (x:α) (last:Int),bW num last (l ++ [x])=num x
 | [],_,_=>rfl
 | y :: l,x,_=>pL l x (num y)
theorem kL {l:List α} {k:Nat} {x:α} (hx:l[k]? =some x):l=l.take k ++ x :: l.drop (k+1):=by
 have hk:k < l.length:=(Lj.1 hx).1;rw [Kz hk] at hx;cases hx
 have:=List.take_append_drop k l
 rw [List.drop_eq_getElem_cons hk] at this;exact this.symm
theorem cj {l:List α} {k:Nat} {x:α} (hx:l[k]? =some x):l.take (k+1)=l.take k ++ [x] :=by
 have hk:k < l.length:=(Lj.1 hx).1;rw [Kz hk] at hx;cases hx;exact QE hk
theorem eG {l:List α} {k:Nat} {x:α} (hx:l[k]? =some x) (last:Int):bW num last (l.take (k+1))=num x:=by
 rw [cj hx,pL]
theorem ed {l:List α} {k:Nat} {x:α} {last:Int} (h:aw num ok last (l.take k)=true) (hx:l[k]? =some x) (h1:cv (num x) 1 1000=true) (h2:bW num last (l.take k) < num x) (h3:ok x=true):aw num ok last (l.take (k+1))=true:=by
 rw [cj hx,lH,h];simp [aw,h1,h2,h3]
theorem bS {l:List α} {k:Nat} {x:α} {last:Int} (hx:l[k]? =some x) (h: ¬ (cv (num x) 1 1000=true∧bW num last (l.take k) < num x∧ok x=true)):aw num ok last l=false:=by
 rw [kL hx,lH]
 have:aw num ok (bW num last (l.take k)) (x :: l.drop (k+1))=false:=by
  simp only [aw];cases h1:cv (num x) 1 1000 <;> simp
  by_cases h2:bW num last (l.take k) < num x
  ·cases h3:ok x
   ·simp
   ·exact absurd ⟨h1,h2,h3⟩ h
  ·simp [h2]
 rw [this,PP]
theorem cK {l:List α} {last:Int} (h:aw num ok last l=true): ∀ x∈l,cv (num x) 1 1000=true∧ok x=true:=by
 induction l generalizing last with
 | nil=>intro x hx; cases hx
 | cons y r ih=>
  simp only [aw,J7] at h;intro x hx;rcases List.mem_cons.1 hx with rfl | hx
  ·exact ⟨h.1.1.1,h.1.2⟩
  ·exact ih h.2 x hx
theorem nC {ok':α→Bool} {l:List α} {last:Int} :aw num (fun x=>ok x && ok' x) last l=(aw num ok last l && l.all ok'):=by
 induction l generalizing last with
 | nil=>rfl
 | cons y r ih=>
  simp only [aw,ih,List.all_cons];cases cv (num y) 1 1000 <;> cases decide (last < num y) <;> cases ok y <;> cases ok' y <;> simp
end
theorem jL {α β:Type} (f:α→β) (num:β→Int) (ok:β→Bool) (l:List α) (last:Int):aw num ok last (l.map f)=aw (fun x=>num (f x)) (fun x=>ok (f x)) last l:=by
 induction l generalizing last with
 | nil=>rfl
 | cons y r ih=>simp only [Lt,aw,ih]
def opAt (x:aD):dN:=x.prog[x.pc.toNat]?.getD (0,0,0,rM)
def dU (x:aD):Bool:=cv x.pc 0 ((x.prog.length:Int) - 1)
def jJ (x:aD):Bool:=if (opAt x).1=1 then decide (0≤x.left) && decide (x.left < (opAt x).2.1) else decide (x.left=0)
def lh (t:Int):Bool:=cv t 1 2000000000 || decide (t= -1)
def bO (x:aD):Bool:=
 if x.Md=0 then decide (x.pc=0) && decide (x.left=0) && decide (x.Mg=0) && decide (x.on=0) && decide (x.RU=0) && bI x.held
 else if x.Md=1 then dU x && jJ x && decide (x.Mg=0) && decide (x.on=0) && bI x.held
 else if x.Md=2 then dU x && decide (x.left=0) && cv x.Mg 1 2000000000 && decide (x.on=0) && bI x.held
 else if x.Md=5 then dU x && decide (x.left=0) && lh x.Mg
 else if x.Md=3∨x.Md=4∨x.Md=6∨x.Md=7 then dU x && decide (x.left=0) && lh x.Mg && bI x.held
 else false
def cH (x:aD):Bool:=cv x.RX 1 50 && jm x.prog && bw x.held && bw x.got && cv x.code 0 3 && bO x
def fF (next:Int) (x:aD):Bool:=decide (x.Md=0) || cv x.RU 1 (next - 1)
def dG (p:aE) (x:aD):Bool:=if 3≤x.Md then hasB p x.Md x.on else true
def rb (l:List aD):Prop:=(l.map (·.RU)).Pairwise (fun a b=> ¬ (a=b∧0 < b))
structure aQ (p:aE):Prop where
 id:cv p.id 1 6=true
 next:cv p.next 1 1000000000=true
 dl:p.L8.length≤6
 fx:p.aj.length≤5
 cD:p.L9.length≤5
 cC:p.ag.length≤5
 cb:p.ae.length≤5
 dH:p.ai.length≤5
 L8:aw (·.id) (fun x=>cH x && fF p.next x && dG p x) 0 p.L8=true
 aj:aw (·.id) gw 0 p.aj=true
 L9:aw (·.id) ey 0 p.L9=true
 ag:aw (·.id) cU 0 p.ag=true
 ae:aw (·.id) ct 0 p.ae=true
 ai:aw (·.id) dj 0 p.ai=true
 apart:rb p.L8
def bK (p:aE):Bool:=cv p.id 1 6 && cv p.next 1 1000000000 && decide (p.L8.length≤6) && decide (p.aj.length≤5) && decide (p.L9.length≤5) && decide (p.ag.length≤5) && decide (p.ae.length≤5) && decide (p.ai.length≤5) &&
 aw (·.id) (fun x=>cH x && fF p.next x && dG p x) 0 p.L8 && aw (·.id) gw 0 p.aj && aw (·.id) ey 0 p.L9 && aw (·.id) cU 0 p.ag && aw (·.id) ct 0 p.ae && aw (·.id) dj 0 p.ai && decide ((p.L8.map (·.RU)).Pairwise (fun a b=> ¬ (a=b∧0 < b)))
theorem ch (p:aE):bK p=true↔aQ p:=by
 simp only [bK,J7,decide_eq_true_eq];constructor
 ·rintro ⟨⟨⟨⟨⟨⟨⟨⟨⟨⟨⟨⟨⟨⟨h1,h2⟩,h3⟩,h4⟩,h5⟩,h6⟩,h7⟩,h8⟩,h9⟩,h10⟩,h11⟩,h12⟩,h13⟩,h14⟩,h15⟩
  exact ⟨h1,h2,h3,h4,h5,h6,h7,h8,h9,h10,h11,h12,h13,h14,h15⟩
 ·intro h
  exact ⟨⟨⟨⟨⟨⟨⟨⟨⟨⟨⟨⟨⟨⟨h.id,h.next⟩,h.dl⟩,h.fx⟩,h.cD⟩,h.cC⟩,h.cb⟩,h.dH⟩,h.L8⟩,h.aj⟩,h.L9⟩,h.ag⟩,h.ae⟩,h.ai⟩,h.apart⟩
theorem fP {p:aE} (h:aQ p):bK p=true:=(ch p).2 h
theorem dL {p:aE} (h: ¬ aQ p):bK p=false:=by
 cases hb:bK p with
 | false=>rfl
 | true=>exact absurd ((ch p).1 hb) h
end
def Na {α:Type} (f:α→ByteArray) (l:List α):ByteArray:=l.foldl (fun t x=>t ++ f x) ⟨#[]⟩
theorem OX {α:Type} {f:α→ByteArray} {l:List α} {k:Nat} {x:α} (h:l[k]? =some x):Na f (l.take (k+1))=Na f (l.take k) ++ f x:=by
 have hk:=(Lj.1 h).1;have hx:=(Lj.1 h).2;rw [QE hk,Na,List.foldl_append,hx];rfl
theorem NN {α:Type} {f:α→ByteArray} {m:Nat} : ∀ (l:List α) (t:ByteArray),(∀ x∈l,(f x).size≤m)→(l.foldl (fun t x=>t ++ f x) t).size≤t.size+m * l.length
 | [],t,_=>by simp
 | x :: r,t,h=>by
  have h1:=NN r (t ++ f x) fun y hy=>h y (List.mem_cons_of_mem _ hy)
  have h2:=h x List.mem_cons_self;rw [List.foldl_cons,List.length_cons,Nat.mul_succ];rw [QH] at h1;omega
theorem Nf {α:Type} {f:α→ByteArray} {m:Nat} {l:List α} (h: ∀ x∈l,(f x).size≤m):(Na f l).size≤m * l.length:=by
 have h1:=NN l ⟨#[]⟩ h;have e:(⟨#[]⟩:ByteArray).size=0:=rfl;unfold Na;omega
def NS (s:ByteArray):ByteArray:=⟨#[59]⟩ ++ s
def MI (l:List ByteArray):ByteArray:=Na NS l
def MJ (b:Bool):Int:=if b then 1 else 0
theorem Oq (b:Bool):Ij (MJ b)=if b then ⟨#[49]⟩ else ⟨#[48]⟩:=by
 cases b
 ·rw [Ij,F7 (by decide),Lib.decDigits,dif_pos (by decide)]
  rfl
 ·rw [Ij,F7 (by decide),Lib.decDigits,dif_pos (by decide)]
  rfl
theorem Ny (s:ByteArray):(NS s).size=1+s.size:=by rw [NS,QH]; rfl
section
open Go.RowKit
def Hu (l:List aD):List Int:=(l.filter (fun x=> !decide (x.Md=0))).map (·.RU)
def nQ (next:Int) (l:List aD):Prop:=(∀ x∈l,¬ x.Md=0→1≤x.RU∧x.RU < next)∧(Hu l).Nodup
structure OpenR (p:aE):Prop where
 id:cv p.id 1 6=true
 next:cv p.next 1 1000000000=true
 dl:p.L8.length≤6
 fx:p.aj.length≤5
 cD:p.L9.length≤5
 cC:p.ag.length≤5
 cb:p.ae.length≤5
 dH:p.ai.length≤5
 L8:aw (·.id) cH 0 p.L8=true
 aj:aw (·.id) gw 0 p.aj=true
 L9:aw (·.id) ey 0 p.L9=true
 ag:aw (·.id) cU 0 p.ag=true
 ae:aw (·.id) ct 0 p.ae=true
 ai:aw (·.id) dj 0 p.ai=true
 turns:nQ p.next p.L8
 waits:p.L8.all (dG p)=true
theorem bz {n lo hi:Int} :cv n lo hi=true↔lo≤n∧n≤hi:=by simp [cv]
theorem kx {x:aD} (h:cH x=true) (h0:x.Md=0):x.RU=0:=by
 simp only [cH,J7] at h
 have:=h.2
 simp only [bO,h0,if_true,J7,decide_eq_true_eq] at this;exact this.1.2
theorem tW {next:Int} {l:List aD} (hb: ∀ x∈l,cH x=true) (h:nQ next l):rb l:=by
 induction l with
 | nil=>exact List.Pairwise.nil
 | cons x r ih=>
  have hr:nQ next r:=⟨fun y hy=>h.1 y (by simp [hy]),by
   have:=h.2
   unfold Hu at this ⊢;rw [LN] at this
   split at this
   ·exact (Lp.1 this).2
   ·exact this⟩
  refine LM.2 ⟨fun b wU hab=> ?_,ih (fun y hy=>hb y (by simp [hy])) hr⟩;obtain ⟨y,hy,rfl⟩:=Lr.1 wU;have e1:x.RU=y.RU:=hab.1;have e2:0 < y.RU:=hab.2;have hxs: ¬ x.Md=0:=fun e=>by
   have:=kx (hb x (by simp)) e
   omega
  have hys: ¬ y.Md=0:=fun e=>by
   have:=kx (hb y (by simp [hy])) e
   omega
  have:=h.2
  unfold Hu at this;rw [LN,if_pos (by simp [hxs]),Lt,Lp] at this;exact this.1 (Lr.2 ⟨y,L2.2 ⟨hy,by simp [hys]⟩,hab.1.symm⟩)
theorem uf {next:Int} {l:List aD} (ht: ∀ x∈l,fF next x=true) (h:rb l):nQ next l:=by
 have h1: ∀ x∈l,¬ x.Md=0→1≤x.RU∧x.RU < next:=fun x hx h0=>by
  have:=ht x hx
  simp only [fF,h0,decide_false,Qg] at this
  have:=bz.1 this
  omega
 refine ⟨h1,?_⟩
 induction l with
 | nil=>exact List.nodup_nil
 | cons x r ih=>
  obtain ⟨h2,h3⟩:=LM.1 h;have ih':=ih (fun y hy=>ht y (by simp [hy])) h3 (fun y hy=>h1 y (by simp [hy]));unfold Hu at ih' ⊢;rw [LN]
  split
  ·rename_i hx
   have hx0: ¬ x.Md=0:=by simpa using hx
   rw [Lt,Lp];refine ⟨fun hm=> ?_,ih'⟩;obtain ⟨y,hy,e⟩:=Lr.1 hm;have hy':=(L2.1 hy).1
   have:=h1 x (by simp) hx0
   exact h2 y.RU (Lr.2 ⟨y,hy',rfl⟩) ⟨e.symm,by omega⟩
  ·exact ih'
theorem i5 (p:aE):OpenR p↔aQ p:=by
 constructor
 ·intro h
  refine ⟨h.id,h.next,h.dl,h.fx,h.cD,h.cC,h.cb,h.dH,?_,h.aj,h.L9,h.ag,h.ae,h.ai,tW (fun x hx=>(cK h.L8 x hx).2) h.turns⟩;rw [nC,nC,h.L8,h.waits,Bool.true_and,Bool.and_true,PZ];intro x hx;by_cases h0:x.Md=0
  ·simp [fF,h0]
  ·have:=h.turns.1 x hx h0
   simp only [fF,h0,decide_false,Qg];exact bz.2 (by omega)
 ·intro h
  have hp:=h.L8;rw [nC,nC,J7,J7] at hp;exact ⟨h.id,h.next,h.dl,h.fx,h.cD,h.cC,h.cb,h.dH,hp.1.1,h.aj,h.L9,h.ag,h.ae,h.ai,uf (fun x hx=>PZ.1 hp.1.2 x hx) h.apart,hp.2⟩
theorem vz (l:List dN) {j:Nat} (hj:j < l.length * 4):(fk.flat l)[j]? =some (xe (Cd l) (Cg l) (Ea l) (Ce l) j):=by
 have hi:j / 4 < l.length:=by omega
 have hx:l[j / 4]? =some l[j / 4] :=Kz hi;have hr:j % 4 < 4:=by omega
 have:=fk.jw hx (j:=j % 4) hr
 have e:j / 4 * fk.n+j % 4=j:=by show j / 4 * 4+j % 4=j; omega
 rw [e] at this;rw [this];have h4:j % 4=0∨j % 4=1∨j % 4=2∨j % 4=3:=by omega
 rcases h4 with h | h | h | h <;> rw [h] <;> simp [fk,CC,xe,h,Cd,Cg,Ea,Ce,hx]
theorem wa {w:World} {a:Option Addr} {l:List dN} (h:Row w a (fk.flat l)) (hl:0 < l.length): ∃ g,a=some ⟨g,0,none⟩∧y9 w g l:=by
 obtain ⟨g,e,hc⟩:=h 0 _ (vz l (j:=0) (by omega));refine ⟨g,e,block_lt_of_cell hc,fun j hj=> ?_⟩;obtain ⟨g',e',hc'⟩:=h j _ (vz l hj);rw [e] at e';cases e';exact hc'
theorem Jm {w:World} {a:Option Addr} {l:List dN} (h:Row w a (fk.flat l)) {i:Nat} {x:dN} (hx:l[i]? =some x): ∃ g,a=some ⟨g,0,none⟩∧w.cell? ⟨g,i * 4,none⟩=some (.int .i64 x.1)∧w.cell? ⟨g,i * 4+1,none⟩=some (.int .i64 x.2.1)∧w.cell? ⟨g,i * 4+2,none⟩=some (.int .i64 x.2.2.1)∧w.cell? ⟨g,i * 4+3,none⟩=some (.string x.2.2.2):=by
 have h':fk.bU w a l:=⟨h,fun _ _ r hr=>by cases hr⟩
 obtain ⟨g,e,hc⟩:=h'.at hx;exact ⟨g,e,hc 0 _ rfl,hc 1 _ rfl,hc 2 _ rfl,hc 3 _ rfl⟩
theorem xd {l:List dN} (hs: ∀ o∈l,o.2.2.2.size≤1048576): ∀ i,i < l.length→(Ce l i).size≤1048576:=fun i hi=>by
 simp only [Ce,Kz hi,Option.getD_some];exact hs _ (List.getElem_mem hi)
structure ao.dX (x:ao):Prop where
 prog:x.prog.length≤1048576
 ops: ∀ o∈x.prog,o.2.2.2.size≤1048576
 held:x.held.size≤1048576
 got:x.got.size≤1048576
theorem xf:jm [] =false:=iS (fun h=>by have:=h.1; simp at this)
theorem tz (a:Option Addr) (cap:Nat) (w:World):
  Calls J3 183 #[.slice a 0 cap] w fun e w'=>e= .returned (.bool false)∧Below w.heap.size w w':=by
 go_enter Tryz.func183,Tryz.ntmps183
 go_wp2
 go_loop [3] (fun i=>i= .int .i64 0) (fun _=>0)
 case atStart=>rfl
 case round=>
  subst hrel;go_wp2;go_ret;exact ⟨rfl,Kp _ _⟩
theorem wQ (a:Option Addr) (l:List dN) (cap:Nat) (w:World) (hl:l.length≤1048576) (hs: ∀ o∈l,o.2.2.2.size≤1048576) (h:Row w a (fk.flat l)):
  Calls J3 183 #[.slice a l.length cap] w fun e w'=>e= .returned (.bool (jm l))∧Below w.heap.size w w':=by
 cases l with
 | nil=>rw [xf]; exact tz a cap w
 | cons x r=>
  obtain ⟨g,rfl,hr⟩:=wa h (by simp);exact vv g _ cap _ _ _ _ w hl (xd hs) hr
theorem tu (a:Option Addr) (cap:Nat) (w:World):
  Calls J3 284 #[.slice a 0 cap] w fun e w'=>e= .returned (.bool false)∧Below w.heap.size w w':=by
 go_enter Tryz.func284,Tryz.ntmps284
 go_wp2;go_ret;exact ⟨rfl,Kp _ _⟩
theorem wI (a:Option Addr) (l:List dN) (cap:Nat) (w:World) (hl:l.length≤1048576) (hs: ∀ o∈l,o.2.2.2.size≤1048576) (h:Row w a (fk.flat l)):
  Calls J3 284 #[.slice a l.length cap] w fun e w'=>e= .returned (.bool (jm l))∧Below w.heap.size w w':=by
 cases l with
 | nil=>rw [xf]; exact tu a cap w
 | cons x r=>
  obtain ⟨g,rfl,hr⟩:=wa h (by simp);exact tV g _ cap _ _ _ _ w hl (xd hs) hr
end
def dF (a b:aD):Bool:=if a.RX=b.RX then decide (a.RU < b.RU) else decide (b.RX < a.RX)
def iy (r:Option aD) (x:aD):Option aD:=match r with
 | none=>some x
 | some b=>if dF x b then some x else some b
def jo (l:List aD):Option aD:=l.foldl iy none
theorem ny (l:List aD) (x:aD):jo (l ++ [x])=iy (jo l) x:=by simp [jo]
theorem zp {r:Option aD} {x y:aD} (h:iy r x=some y):y=x∨r=some y:=by
 unfold iy at h
 split at h
 ·exact .inl (KC h).symm
 ·split at h
  ·exact .inl (KC h).symm
  ·exact .inr h
theorem pN (r:Option aD) (x:aD): ∃ y,iy r x=some y:=by
 unfold iy
 split
 ·exact ⟨_,rfl⟩
 ·split <;> exact ⟨_,rfl⟩
def dO (f:aD→Bool) (l:List aD) (k:Nat) (i:Int):Prop:=match jo ((l.take k).filter f) with
 | none=>i= -1
 | some x=> ∃ n:Nat,i=n∧n < k∧l[n]? =some x
section
variable {f:aD→Bool} {l:List aD} {k:Nat} {i:Int} {x:aD}
theorem dO.start (f:aD→Bool) (l:List aD):dO f l 0 (-1):=by simp [dO,jo]
theorem rS (hx:l[k]? =some x):(l.take (k+1)).filter f=(l.take k).filter f ++ (if f x then [x] else []):=by
 rw [cj hx,List.filter_append];by_cases h:f x=true <;> simp [h]
theorem dO.skip (h:dO f l k i) (hx:l[k]? =some x) (hf:f x=false):dO f l (k+1) i:=by
 unfold dO at h ⊢;rw [rS hx,hf];simp only [J5,if_false,List.append_nil]
 split at h
 ·exact h
 ·obtain ⟨n,h1,h2,h3⟩:=h
  exact ⟨n,h1,by omega,h3⟩
theorem dO.first (h:dO f l k i) (hi:i < 0) (hx:l[k]? =some x) (hf:f x=true):dO f l (k+1) k:=by
 unfold dO at h ⊢;rw [rS hx,hf];simp only [if_true];rw [ny]
 split at h
 ·rename_i e
  rw [e];exact ⟨k,rfl,by omega,hx⟩
 ·obtain ⟨n,h1,_⟩:=h
  omega
theorem dO.got (h:dO f l k i) (hi: ¬ i < 0): ∃ (n:Nat) (y:aD),i=n∧n < k∧l[n]? =some y∧jo ((l.take k).filter f)=some y:=by
 unfold dO at h
 split at h
 ·omega
 ·rename_i y e
  obtain ⟨n,h1,h2,h3⟩:=h;exact ⟨n,y,h1,h2,h3,e⟩
theorem dO.next {n:Nat} {y:aD} (hn:n < k) (hy:l[n]? =some y) (he:jo ((l.take k).filter f)=some y) (hx:l[k]? =some x) (hf:f x=true):dO f l (k+1) (if dF x y then (k:Int) else (n:Int)):=by
 unfold dO;rw [rS hx,hf];simp only [if_true];rw [ny,he];simp only [iy];by_cases ha:dF x y=true
 ·simp only [ha,if_true]
  exact ⟨k,rfl,by omega,hx⟩
 ·simp only [ha,J5,if_false]
  exact ⟨n,rfl,by omega,hy⟩
end
def nL (l:List aD):Int:=match jo (l.filter fun x=>decide (x.Md=1)) with
 | none=>0
 | some x=>x.id
def da (p:aE):Int:=if bK p then nL p.L8 else 0
section
open Go.RowKit Go.Maps
structure fT (w:World) (a:Option Addr) (l:List ByteArray):Prop where
 len:l.length≤1048576
 short: ∀ s∈l,s.size≤1048576
 row:Row w a (bT.flat l)
theorem fT.below {w w':World} {a:Option Addr} {l:List ByteArray} (h:fT w a l) (hb:Below w.heap.size w w'):fT w' a l:=⟨h.len,h.short,h.row.below hb⟩
theorem oy (a:Option Addr) (l:List ByteArray) (cap:Nat) (Me:Int) (w:World) (h:fT w a l):
  Calls J3 299 #[.slice a l.length cap,.int .i64 Me] w fun e w'=>e= .returned (.bool (cv Me 1 5 && dJ l Me))∧w'=w:=by
 have H:Hid (fT w a l):=h;have hl:=h.len;clear h;by_cases h1:Me < 1
 ·go_enter QP,QQ
  go_wp2;go_ret;exact ⟨al (by rw [mA h1]; rfl),rfl⟩
 by_cases h2:5 < Me
 ·go_enter QP,QQ
  go_wp2;go_ret;exact ⟨al (by rw [kR h2]; rfl),rfl⟩
 have HIn:Hid (cv Me 1 5=true):=eB (by omega) (by omega);by_cases h3:Me < (l.length:Int)
 ·have HT:Hid (dJ l Me=false):=by show dJ l Me=false; simp [dJ]; intro _; omega
  have e1:wrap64 (l.length:Int)=l.length:=by unfold wrap64; omega
  go_enter QP,QQ
  go_wp2;go_ret;exact ⟨al (by rw [HT.I,PP]),rfl⟩
 have HL:Hid (decide ((l.length:Int)≤Me)=true):=decide_eq_true (by omega);have e1:wrap64 (l.length:Int)=l.length:=by unfold wrap64; omega
 go_enter QP,QQ
 go_wp2_with fail
 go_loop [21] (fun i=> ∃ k:Nat,k≤l.length∧i= .int .i64 k∧Hid ((l.take k).all bw=true)) (fun i=>l.length - (intOf i).toNat)
 case atStart=>exact ⟨0,Nat.zero_le _,rfl,(by simp:(l.take 0).all bw=true)⟩
 case round=>
  obtain ⟨k,hk,rfl,HA⟩:=hrel;by_cases hlt:k < l.length
  ·have i0:(0:Int)≤(k:Int):=by omega
   have i1:(k:Int) < (l.length:Int):=by omega
   obtain ⟨x,hx⟩: ∃ x,l[k]? =some x:=⟨_,Kz hlt⟩
   have HX:Hid (l[k]? =some x):=hx;obtain ⟨g,rfl,c0⟩:=zl H.I.row hx;have hxs:=H.I.short x (List.mem_of_getElem? hx);clear hx;go_wp2_with fail;refine (iM x w hxs).mono ?_;rintro e w' ⟨rfl,rfl⟩;cases hp:bw x with
   | true=>
    have HP:Hid (bw x=true):=hp;clear hp;go_wp2
    go_round
    case rel=>exact ⟨k+1,by omega,by go_num,pQ HA.I HX.I HP.I⟩
    case measure=>simp [intOf]; omega
   | false=>
    have HP:Hid (bw x=false):=hp;clear hp;go_wp2;go_ret;exact ⟨al (by rw [xL HX.I HP.I,PP]),rfl⟩
  ·have i1: ¬ (k:Int) < (l.length:Int):=by omega
   have HT:Hid (l.all bw=true):=by have:=HA.I; rwa [List.take_of_length_le (by omega)] at this
   go_wp2;go_ret;exact ⟨al (by rw [HIn.I,dJ,HT.I,HL.I]; rfl),rfl⟩
theorem zS {id:Int} {I Mf:Bool} {max:Int} {Ma:List ByteArray} (h:(cv max 1 5 && dJ Ma max)=false):dj ⟨id,I,Mf,max,Ma⟩=false:=by
 simp only [dj];cases h1:cv max 1 5 <;> cases h2:dJ Ma max <;> simp_all
theorem Cu {id:Int} {I:Bool} {max:Int} {Ma:List ByteArray} (h:(cv max 1 5 && dJ Ma max)=true) (q:Bool):dj ⟨id,I,q,max,Ma⟩=(q || decide (max=1)):=by
 simp only [J7] at h;simp [dj,h.1,h.2]
def iI (Me:Int) (m:df) (id:Int) (ok:Bool):Bool:= !(cz m id).isSome && decide ((m.length:Int) < Me) && cv id 1 1000 && ok
def dD (w:World) (b:Nat) (m:df) (ok:Bool) (id:Int) (cs:Array Value) (T:TypeId) (e:Ending) (w':World):Prop:=
 e= .returned (.bool ok)∧(ok=false→Below w.heap.size w w')∧(ok=true→ ∃ g,w.heap.size≤g∧w'.heap[g]? =some (.cells cs T (0,0))∧cF w' b (oK (id,g) m)∧w.grownBy w' (some b))
theorem ki {w w':World} {b:Nat} {m:df} {ok:Bool} {id:Int} {cs:Array Value} {T:TypeId} (h:ok=false) (hb:Below w.heap.size w w'):dD w b m ok id cs T (.returned (.bool false)) w':=by
 subst h;exact ⟨rfl,fun _=>hb,fun h=>by cases h⟩
structure fe (w W:World) (S X b:Nat) (m:df) (Me:Int) (cs:Array Value) (T TS:TypeId):Prop where
 sh:W.heap[S]? =some (.cells #[.int .i64 Me,.map (some b)] TS (0,0))
 bx:W.heap[X]? =some (.cells cs T (0,0))
 mp:cF W b m
 cd:Below w.heap.size w W
section
variable {w W W':World} {S X b:Nat} {m:df} {Me:Int} {cs:Array Value} {T TS:TypeId}
theorem fe.below (h:fe w W S X b m Me cs T TS) (hb:Below W.heap.size W W'):fe w W' S X b m Me cs T TS:=
 ⟨(hb.block _ (J2.1 h.sh).1).trans h.sh,(hb.block _ (J2.1 h.bx).1).trans h.bx,h.mp.below hb,h.cd.trans (hb.mono h.cd.size)⟩
theorem fe.start (w:World) {b:Nat} {m:df} (h:cF w b m) (Me:Int) (cs:Array Value) (T TS:TypeId):fe w ((w.alloc (.cells #[.int .i64 Me,.map (some b)] TS)).alloc (.cells cs T)) w.heap.size (w.heap.size+1) b m Me cs T TS:=by
 have b1:Below w.heap.size w (w.alloc (.cells #[.int .i64 Me,.map (some b)] TS)):=(Kp _ _).alloc (Nat.le_refl _) _;have b2:Below w.heap.size w ((w.alloc (.cells #[.int .i64 Me,.map (some b)] TS)).alloc (.cells cs T)):=b1.alloc b1.size _;exact ⟨(PU (by simp)).trans (heap_alloc_new _ _),heap_alloc2_new _ _ _,h.below b2,b2⟩
theorem fe.drew (h:fe w W S X b m Me cs T TS):fe w W.drew S X b m Me cs T TS:=⟨h.sh,h.bx,h.mp.same rfl,h.cd.drew⟩
theorem fe.cells (h:fe w W S X b m Me cs T TS):W.cell? ⟨S,0,none⟩=some (.int .i64 Me)∧W.cell? ⟨S,1,none⟩=some (.map (some b)):=by
 have:=h.sh
 simp [World.cell?,this]
theorem fe.put (h:fe w W S X b m Me cs T TS) (hX:w.heap.size≤X) {t e:TypeId} (ht:Tryz.prog.underlying t=some (.map 2 e)) {id:Int} (hid:(Lit.int .i64 id).wf=true) (hn:cz m id=none) (hm:m.length≤1048576) (hXb: ¬ X=b):
  ∃ w',(Instr.mapUpdate t (.map (some b)) (.int .i64 id) (.pointer (some ⟨X,0,none⟩))).run J3 W= .ok () w'∧dD w b m true id cs T (.returned (.bool true)) w':=by
 obtain ⟨w',hrun,hmp,htn⟩:=h.mp.put ht hid X hn hm;refine ⟨w',hrun,⟨rfl,(fun h=>by cases h),fun _=>⟨X,hX,?_,hmp,?_⟩⟩⟩
 ·have:=htn.grown
  exact (this.block X (J2.1 h.bx).1 (fun e=>hXb (KC e))).trans h.bx
 ·have hg:=htn.grown
  exact ⟨hg.os.trans h.cd.os,hg.tape.trans h.cd.tape,hg.output.trans h.cd.output,Nat.le_trans h.cd.size hg.size,fun k hk hne=>(hg.block k (Nat.lt_of_lt_of_le hk h.cd.size) hne).trans (h.cd.block k hk)⟩
end
end
end Go.Proofs.YtkbcplnlehdjfaaGreat
