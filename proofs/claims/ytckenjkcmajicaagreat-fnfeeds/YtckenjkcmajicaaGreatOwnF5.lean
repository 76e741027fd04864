/- What the proof leans on, part 5. -/
import Derived.Test.YtckenjkcmajicaaGreatOwnF1
import Derived.Test.YtckenjkcmajicaaGreatOwnF3
import Derived.Deep.WholeRow
import Derived.Great.FillDense
set_option linter.all false
set_option maxRecDepth 100000
set_option maxHeartbeats 8000000
open Go.Proofs.Tryz
open Go renaming World->w_,Value->v_,Calls->k_,Addr->d_,TypeId->T_
open Go.Ending renaming returned->r_
open Go.IntKind renaming i64->j_
open Go.Obj renaming cells->c_
open Go.RowKit renaming Below->B_,Hid->bN
open Go.Value renaming int->i_,slice->s_,bool->b_,agg->a_,pointer->p_,tuple->u_
open Option renaming some->o_,none->n_
open Array renaming length_toList->aen,size_setIfInBounds->aem
open Go renaming wpList_plain->aec
open Go.Proofs.Tryz renaming prog->J3
open Go.Result renaming andThen_ok->QT
open List renaming map_toArray->aed

open Go.RowKit
namespace Go.Proofs.YtckenjkcmajicaaGreat
section
def BX (major fr a l p:Int):Bool:=decide (fr<=a/\a<=major/\1<=l/\l<=major - a/\1<=p/\p<=6)
def Tx {major fr a l p:Int} (h:fr<=a/\a<=major/\1<=l/\l<=major - a/\1<=p/\p<=6):BX major fr a l p=true:=by simp only [BX]; exact decide_eq_true h
def hG {major fr a l p:Int} (h: ¬ (fr<=a/\a<=major/\1<=l/\l<=major - a/\1<=p/\p<=6)):BX major fr a l p=false:=by simp only [BX]; exact decide_eq_false h
def TO {major fr a l p:Int} (h:BX major fr a l p=true):fr<=a/\a<=major/\1<=l/\l<=major - a/\1<=p/\p<=6:=by simpa [BX] using h
def C2 (a l p fr major:Int) (w:w_) (h0:0<=fr) (h1:1<=major) (h2:major<=1000):
  k_ J3 62 #[a_ #[i_ j_ a,i_ j_ l,i_ j_ p],i_ j_ fr,i_ j_ major] w fun e w'=>e=r_ (b_ (BX major fr a l p))/\B_ w.heap.size w w':=by
 by_cases k1:a < fr
 .exact L_
 by_cases k2:major < a
 .exact L_
 by_cases k3:l < 1
 .exact L_
 by_cases k4:major - a < l
 .exact L_
 by_cases k5:p < 1
 .exact L_
 by_cases k6:6 < p
 .go_enter func62,ntmps62
  go_wp2;go_ret;exact ⟨al (by rw [hG zw]; exact decide_eq_false zw),by go_grown⟩
 go_enter func62,ntmps62
 go_wp2;go_ret;exact ⟨al (Tx zw).symm,by go_grown⟩
def o7 (Z:Nat->Int):Nat->Int
 | 0=>0
 | i+1=>Z (i * 3)+Z (i * 3+1)
def pn (major:Int) (Z:Nat->Int) (i:Nat):Bool:=BX major (o7 Z i) (Z (i * 3)) (Z (i * 3+1)) (Z (i * 3+2))
def nn (major:Int) (len:Nat) (Z:Nat->Int):Bool:=decide (1<=major/\major<=1000/\len<=20/\ ∀ i,i < len->pn major Z i=true)
def PE {major:Int} {len:Nat} {Z:Nat->Int} (h:1<=major/\major<=1000/\len<=20/\ ∀ i,i < len->pn major Z i=true):nn major len Z=true:=by simp only [nn]; exact decide_eq_true h
def mm {major:Int} {len:Nat} {Z:Nat->Int} (h: ¬ (1<=major/\major<=1000/\len<=20/\ ∀ i,i < len->pn major Z i=true)):nn major len Z=false:=by simp only [nn]; exact decide_eq_false h
def apc {major:Int} {len:Nat} {Z:Nat->Int} (h:nn major len Z=true):1<=major/\major<=1000/\len<=20/\ ∀ i,i < len->pn major Z i=true:=by
 simp only [nn] at h; exact of_decide_eq_true h
def A4 {major:Int} {Z:Nat->Int} (k:Nat) (h: ∀ i,i < k->pn major Z i=true):0<=o7 Z k/\(1<=major->o7 Z k<=major):=by
 induction k with
 | zero=>simp [o7]; omega
 | succ k ih=>
  have ih:=ih (fun i hi=>h i zw);have hk:=TO (h k zw);simp only [o7];omega
def Tc (major:Int) (g len cap:Nat) (Z:Nat->Int) (w:w_) (hl:len<=1048576) (hz: ∀ j,-9223372036854775808<=Z j/\Z j<=9223372036854775807) (hr:lT w g len Z):
  k_ J3 42 #[a_ #[i_ j_ major,s_ (o_ ⟨g,0,n_⟩) len cap]] w fun e w'=>e=r_ (b_ (nn major len Z))/\B_ w.heap.size w w':=by
 by_cases k1: ¬ (1<=major/\major<=1000)
 .have hin:cv major 1 1000=false:=by simp [cv]; omega
  exact Zao
 have k1:1<=major/\major<=1000:=zw
 have hin:cv major 1 1000=true:=eB k1.1 k1.2;by_cases k2:20 < len
 .exact Zao
 obtain ⟨k1,k1'⟩:=k1;have hgl:=hr.lt
 go_enter func42,ntmps42
 go_wp2_with (go_at_call 41; refine (dx _ _ _ _).mono ?_; rintro e w' ⟨rfl,rfl⟩)
 go_loopw [3,4] (fun t i wr=> ∃ k:Nat,k<=len/\i=i_ j_ k/\t=i_ j_ (o7 Z k)/\(∀ i,i < k->pn major Z i=true)/\B_ (w.heap.size+1) (w.alloc (c_ #[i_ j_ major,s_ (o_ ⟨g,0,n_⟩) len cap] 26)) wr) (fun _ i _=>len - (intOf i).toNat)
 case atStart=>exact ⟨0,Ky _,rfl,rfl,fun i hi=>by omega,Kp _ _⟩
 case round=>
  obtain ⟨k,hk,rfl,rfl,hall,kj⟩:=hrel;have HA:bN (∀ i,i < k->pn major Z i=true):=hall;have he:=A4 k hall;clear hall;obtain ⟨he0,he1⟩:=he;have he1:=he1 k1;have hs:w.heap.size < wr.heap.size:=by have:=kj.size; simp only [RR] at this; omega
  have m0:wr.cell? ⟨w.heap.size,0,n_⟩=o_ (i_ j_ major):=(kj.cell (p:=⟨w.heap.size,0,n_⟩) zy).trans zy;have m1:wr.cell? ⟨w.heap.size,1,n_⟩=o_ (s_ (o_ ⟨g,0,n_⟩) len cap):=(kj.cell (p:=⟨w.heap.size,1,n_⟩) zy).trans zy;by_cases hlt:k < len
  .have Vo:lT wr g len Z:=(hr.alloc _).of_block (kj.block g zw)
   have c0:wr.cell? ⟨g,k * 3,n_⟩=o_ (i_ j_ (Z (k * 3))):=Vo.cell zw;have c1:wr.cell? ⟨g,k * 3+1,n_⟩=o_ (i_ j_ (Z (k * 3+1))):=Vo.cell zw;have c2:wr.cell? ⟨g,k * 3+2,n_⟩=o_ (i_ j_ (Z (k * 3+2))):=Vo.cell zw;have HR:bN (lT wr g len Z):=Vo;clear Vo hr;have q0:=hz (k * 3);have q0':=hz (k * 3+1);generalize ha:Z (k * 3)=a at *;generalize hl':Z (k * 3+1)=l at *;generalize hp:Z (k * 3+2)=p at *;have hend:o7 Z (k+1)=a+l:=by simp [o7,ha,hl']
   have HE:=(show bN (o7 Z (k+1)=a+l) from hend)
   have TX:pn major Z k=BX major (o7 Z k) a l p:=by simp [pn,ha,hl',hp]
   have HW:=(show bN (pn major Z k=BX major (o7 Z k) a l p) from TX)
   clear hend TX ha hl' hp;generalize hen:o7 Z k=en at *;clear hen hz;have hno:BX major en a l p=false->nn major len Z=false:=fun h=>mm (fun hh=>by have:=hh.2.2.2 k hlt; rw [HW.I,h] at this; cases this)
   have HN:bN (BX major en a l p=false->nn major len Z=false):=hno;clear hno;have hB:B_ w.heap.size w wr:=((Kp _ _).alloc (Ki _) _).trans (kj.mono zw);by_cases q1: ¬ (en<=a/\a<=major)
   .have i1:cv a en major=false:=by simp [cv]; omega
    exact Or
   have q1:en<=a/\a<=major:=zw
   have i1:cv a en major=true:=eB q1.1 q1.2;by_cases q2: ¬ (1<=l/\l<=major)
   .have i2:cv l 1 major=false:=by simp [cv]; omega
    exact Or
   have q2:1<=l/\l<=major:=zw
   have i2:cv l 1 major=true:=eB q2.1 q2.2;by_cases q3:major < a+l
   .go_wp2_with (go_at_call 41; refine (dx _ _ _ _).mono ?_; rintro e w' ⟨rfl,rfl⟩)
    go_ret;exact ⟨al (HN.I (hG zw)).symm,hB.alloc zw _⟩
   by_cases q4: ¬ (1<=p/\p<=6)
   .have i4:cv p 1 6=false:=by simp [cv]; omega
    exact Or
   have q4:1<=p/\p<=6:=zw
   have i4:cv p 1 6=true:=eB q4.1 q4.2;go_wp2_with (go_at_call 41; refine (dx _ _ _ _).mono ?_; rintro e w' ⟨rfl,rfl⟩);go_roundw
   case rel=>
    refine ⟨k+1,zw,by go_num,by rw [HE.I],?_,kj.alloc zw _⟩;intro i hi;by_cases e:i=k
    .subst e; rw [HW.I]; exact Tx zw
    .exact HA.I i zw
   case measure=>simp [intOf]; omega
  .go_wp2
   go_ret;have e:k=len:=zw
   subst e;exact ⟨al (PE ⟨k1,k1',zw,HA.I⟩).symm,((Kp _ _).alloc (Ki _) _).trans (kj.mono zw)⟩
def tx:Array v_:=Array.replicate 62 (i_ j_ 0)
def Tq (m n:Int):Array v_:= #[i_ j_ m,i_ j_ n] ++ Array.replicate 60 (i_ j_ 0)
def ub:tx.size=62:=by simp [tx]
def E3 (m n:Int):(Tq m n).size=62:=by simp [Tq]
def Tn:tx.all (·.oneCell')=true:=by
 refine aeb.2 fun v hv=> ?_
 obtain ⟨_,rfl⟩:=Array.mem_replicate.1 hv;rfl
def U3 (m n:Int):(Tq m n).all (·.oneCell')=true:=by
 refine aeb.2 fun v hv=> ?_
 rcases Array.mem_append.1 hv with h | h
 .simp at h
  rcases h with rfl | rfl <;> rfl
 .obtain ⟨_,rfl⟩:=Array.mem_replicate.1 h
  rfl
def TI (w:w_):(Instr.alloc 65 true (u_ #[])).run J3 w= .ok (p_ (o_ ⟨w.heap.size,0,n_⟩)) (w.alloc (c_ tx 65)):=by kernel_rfl
def Tv (w:w_):(Instr.build 65 #[]).run J3 w= .ok (a_ tx) w:=by kernel_rfl
def TE (m n:Int) (w:w_):(Instr.build 65 #[(0,i_ j_ m),(1,i_ j_ n)]).run J3 w= .ok (a_ (Tq m n)) w:=by kernel_rfl
def Dw:(Tryz.prog.info? 65).map (·.size)=o_ 62:=by kernel_rfl
def gq {ops:Array Oper} {rest:List Oper} {op:Oper} {a:Act} {w:w_} {Q:Exit->Act->w_->Prop} (hgd:op.guard=n_) (ho:op.op= .alloc 65) (N:Nat) (hN:w.heap.size=N) (T:Array v_) (hT:tx=T)
  (h:wpList J3 ops Q rest (a.put op.dst (p_ (o_ ⟨N,0,n_⟩))) (w.alloc (c_ T 65))):wpList J3 ops Q (op :: rest) a w:=
 aec hgd fun _ hK=>by
  subst hT;unfold Oper.wp execOp;simp only [ho,QR,TI,QT];rw [hN];exact hK _ _ h
def j3 {ops:Array Oper} {rest:List Oper} {op:Oper} {a:Act} {w:w_} {Q:Exit->Act->w_->Prop} (hgd:op.guard=n_) (ho:op.op= .build 65 #[]) (T:Array v_) (hT:tx=T)
  (h:wpList J3 ops Q rest (a.put op.dst (a_ T)) w):wpList J3 ops Q (op :: rest) a w:=
 aec hgd fun _ hK=>by
  subst hT;unfold Oper.wp execOp;simp only [ho,QR,aed,QV,Tv,QT];exact hK _ _ h
def Sc {ops:Array Oper} {rest:List Oper} {op:Oper} {a:Act} {w:w_} {Q:Exit->Act->w_->Prop} (hgd:op.guard=n_) (x y:Operand) (ho:op.op= .build 65 #[(0,x),(1,y)])
  (m n:Int) (hx:a.eval x=i_ j_ m) (hy:a.eval y=i_ j_ n) (T:Array v_) (hT:Tq m n=T)
  (h:wpList J3 ops Q rest (a.put op.dst (a_ T)) w):wpList J3 ops Q (op :: rest) a w:=
 aec hgd fun _ hK=>by
  subst hT;unfold Oper.wp execOp;simp only [ho,QR,aed,Lt,QV,hx,hy,TE,QT];exact hK _ _ h
def fC {ops:Array Oper} {rest:List Oper} {op:Oper} {a:Act} {w:w_} {Q:Exit->Act->w_->Prop} (hgd:op.guard=n_) (x y:Operand) (ho:op.op= .store 65 x y)
  (g:Nat) (cells:Array v_) (hx:a.eval x=p_ (o_ ⟨g,0,n_⟩)) (hy:a.eval y=a_ cells) (old:Array v_) (hg:w.heap[g]? =o_ (c_ old 65)) (hos:old.size=62) (hcs:cells.size=62) (h1:cells.all (·.oneCell')=true)
  (h:wpList J3 ops Q rest (a.put op.dst undef) (w.setRow g cells)):wpList J3 ops Q (op :: rest) a w:=
 wpList_store_row hgd 65 x y ho g cells hx hy 65 old hg (by rw [Dw,hcs]) (by rw [hos,hcs]) h1 h
def ma {tmps:Array v_} {w:w_} {g:Nat} {t:T_} {cs:Array v_} {fr:Nat × Nat} {b:Bool} (hp:tmps.getD 2 undef=p_ (o_ ⟨g,0,n_⟩)) (hb:tmps.getD 3 undef=b_ b)
  (hg:w.heap[g]? =o_ (c_ cs t fr)) (hs:cs.size=62):(results Tryz.f34 tmps).run J3 w= .ok (u_ #[a_ cs,b_ b]) w:=by
 rw [results_cell_tmp (results34),hp,hb]
 have:=run_loadVar_row (P:=J3) w g t 65 cs fr _ hg underlying65 rfl (by rw [Dw,hs])
 simp [asAddr,this]
def kz {B g:Nat} {w0 w:w_} (hb:B_ B w0 w) (hBg:B<=g) (cs:Array v_):B_ B w0 (w.setRow g cs):=
 hb.trans ⟨rfl,rfl,rfl,by simp,fun k hk=>KH w g k cs zw⟩
def Up (major:Int) (g len cap:Nat) (w:w_) (hl:len<=1048576) (h:major < 1\/1000 < major\/20 < len):
  k_ J3 34 #[a_ #[i_ j_ major,s_ (o_ ⟨g,0,n_⟩) len cap]] w fun e w'=>e=r_ (u_ #[a_ tx,b_ false])/\B_ w.heap.size w w':=by
 obtain ⟨T,hT⟩: ∃ T,tx=T:=⟨_,rfl⟩
 have hs:T.size=62:=by rw [<- hT]; exact ub
 have ho:T.all (·.oneCell')=true:=by rw [<- hT]; exact Tn
 have HT:bN (tx=T):=hT;clear hT;by_cases h1:major < 1
 .exact mi
 by_cases h2:1000 < major
 .exact mi
 have h3:20 < len:=zw
 exact mi
def va (m:Int) (n:Nat) (Z:Nat->Int) (k:Nat) (j:Nat):v_:=
 if j=0 then i_ j_ m else if j=1 then i_ j_ n else if j - 2 < k * 3 then i_ j_ (Z (j - 2)) else i_ j_ 0
def UE (w:w_) (m:Int) (n:Nat) (Z:Nat->Int):(w.alloc (c_ (Tq m n) 65)).rowIs w.heap.size 65 62 (va m n Z 0):=by
 have h:=World.rowIs_alloc w (Tq m n) 65 (va m n Z 0) (fun i hi=>by
  rw [E3] at hi;unfold Tq va;by_cases e0:i=0
  .subst e0; simp
  by_cases e1:i=1
  .subst e1; simp
  rw [Array.getElem?_append_right ZbZ]
  have:i - 2 < 60:=zw
  simp [e0,e1,this])
 rwa [E3] at h
def Vi {wr:w_} {g n k:Nat} {m:Int} {Z:Nat->Int} (h:wr.rowIs g 65 62 (va m n Z k)):
  (((wr.setCell ⟨g,2+k * 3,n_⟩ (i_ j_ (Z (k * 3)))).setCell ⟨g,2+k * 3+1,n_⟩ (i_ j_ (Z (k * 3+1)))).setCell ⟨g,2+k * 3+2,n_⟩ (i_ j_ (Z (k * 3+2)))).rowIs g 65 62 (va m n Z (k+1)):=by
 refine (((h.set (2+k * 3) _).set (2+k * 3+1) _).set (2+k * 3+2) _).congr ?_;intro j _;unfold va;by_cases e2:j=2+k * 3+2
 .subst e2; rw [if_pos rfl,if_neg zw,if_neg zw,if_pos zw,show 2+k * 3+2 - 2=k * 3+2 by omega]
 by_cases e1:j=2+k * 3+1
 .subst e1; rw [if_neg zw,if_pos rfl,if_neg zw,if_neg zw,if_pos zw,show 2+k * 3+1 - 2=k * 3+1 by omega]
 by_cases e0:j=2+k * 3
 .subst e0; rw [if_neg zw,if_neg zw,if_pos rfl,if_neg zw,if_neg zw,if_pos zw,show 2+k * 3 - 2=k * 3 by omega]
 rw [if_neg e2,if_neg e1,if_neg e0];by_cases j0:j=0
 .rw [if_pos j0,if_pos j0]
 by_cases j1:j=1
 .rw [if_neg j0,if_neg j0,if_pos j1,if_pos j1]
 rw [if_neg j0,if_neg j0,if_neg j1,if_neg j1];by_cases hj:j - 2 < k * 3
 .rw [if_pos hj,if_pos zw]
 .rw [if_neg hj,if_neg zw]
def P2 (m:Int) (n:Nat) (Z:Nat->Int) (cs:Array v_):Prop:=cs.size=62/\ ∀ j,j < 62->cs[j]? =o_ (va m n Z n j)
def U5 (m:Int) (n:Nat) (Z:Nat->Int) (k j:Nat):(va m n Z k j).oneCell'=true:=by
 unfold va
 repeat' split
 all_goals rfl
def P2.one {m:Int} {n:Nat} {Z:Nat->Int} {cs:Array v_} (h:P2 m n Z cs):cs.all (·.oneCell')=true:=by
 refine aeb.2 fun v hv=> ?_
 obtain ⟨i,hi,rfl⟩:=Array.getElem_of_mem hv
 have:=h.2 i (by have:=h.1; omega)
 rw [Qb hi] at this;rw [KC this];exact U5 _ _ _ _ _
def VN (w:w_) (A B C:Obj):(((w.alloc A).alloc B).alloc C).heap[w.heap.size+1+1]? =o_ C:=by
 have h:=Kj ((w.alloc A).alloc B) C
 rwa [RR,RR] at h
def Vy (w:w_) (A B:Obj) (c c':Array v_) (t:T_):(((w.alloc A).alloc B).alloc (c_ c t)).setRow (w.heap.size+1+1) c'=((w.alloc A).alloc B).alloc (c_ c' t):=by
 have h:=World.setRow_alloc_new ((w.alloc A).alloc B) c c' t
 rwa [RR,RR] at h
def T4 (major:Int) (g len cap:Nat) (Z:Nat->Int) (w:w_) (h1:1<=major) (h2:major<=1000) (h3:len<=20) (hz: ∀ j,-9223372036854775808<=Z j/\Z j<=9223372036854775807) (hr:lT w g len Z):
  k_ J3 34 #[a_ #[i_ j_ major,s_ (o_ ⟨g,0,n_⟩) len cap]] w fun e w'=>
   (((∀ i,i < len->pn major Z i=true)/\ ∃ cs,e=r_ (u_ #[a_ cs,b_ true])/\P2 major len Z cs)\/(¬ (∀ i,i < len->pn major Z i=true)/\e=r_ (u_ #[a_ tx,b_ false])))/\B_ w.heap.size w w':=by
 have k1: ¬ major < 1:=zw
 have k2: ¬ 1000 < major:=zw
 have k3: ¬ (20:Int) < len:=zw
 have hgl:=hr.lt;obtain ⟨T,hT⟩: ∃ T,tx=T:=⟨_,rfl⟩
 have hs:T.size=62:=by rw [<- hT]; exact ub
 have ho:T.all (·.oneCell')=true:=by rw [<- hT]; exact Tn
 have HT:bN (tx=T):=hT;clear hT;obtain ⟨U,hU⟩: ∃ U,Tq major len=U:=⟨_,rfl⟩
 have hs':U.size=62:=by rw [<- hU]; exact E3 _ _
 have ho':U.all (·.oneCell')=true:=by rw [<- hU]; exact U3 _ _
 have HU:bN (Tq major len=U):=hU;clear hU
 go_enter func34,ntmps34
 go_wp2_with (first | (refine gq rfl rfl (w.heap.size+1) ?hN T HT.I ?_; (case hN=>(rw [RR]; done))) | (refine gq rfl rfl (w.heap.size+1+1) ?hN T HT.I ?_; (case hN=>rw [RR,RR])) | (refine Sc rfl (.tmp 24) (.tmp 27) rfl major len (by rfl) (by rfl) U HU.I ?_) | (refine fC rfl (.tmp 4) (.tmp 28) rfl (w.heap.size+1+1) U (by rfl) (by rfl) T (by exact VN _ _ _ _) hs hs' ho' ?_; rw [Vy]));obtain ⟨W0,hW0⟩: ∃ W0,(((w.alloc (Obj.cells #[Value.int IntKind.i64 major,Value.slice (o_ ⟨g,0,n_⟩) len cap] 26)).alloc (Obj.cells T 65)).alloc (Obj.cells U 65))=W0:=⟨_,rfl⟩
 have b0:W0.heap.size=w.heap.size+3:=by rw [<- hW0]; simp
 have b1:B_ w.heap.size w W0:=by rw [<- hW0]; go_grown
 have b2:W0.rowIs (w.heap.size+1+1) 65 62 (va major len Z 0):=by rw [<- hW0,<- HU.I]; have:=UE ((w.alloc (Obj.cells #[Value.int IntKind.i64 major,Value.slice (o_ ⟨g,0,n_⟩) len cap] 26)).alloc (Obj.cells T 65)) major len Z; rwa [RR,RR] at this
 have b3:W0.heap[w.heap.size+1]? =o_ (c_ T 65):=by rw [<- hW0,PU zy,Kq]
 have b4:W0.heap[w.heap.size]? =o_ (c_ #[Value.int IntKind.i64 major,Value.slice (o_ ⟨g,0,n_⟩) len cap] 26):=by rw [<- hW0,PU ZbZ,heap_alloc2_old]
 rw [hW0];clear hW0
 go_loopw [5,32] (fun t i wr=> ∃ k:Nat,k<=len/\i=i_ j_ k/\t=i_ j_ (o7 Z k)/\(∀ i,i < k->pn major Z i=true)/\wr.rowIs (w.heap.size+1+1) 65 62 (va major len Z k)/\B_ (w.heap.size+1+1) W0 wr) (fun _ i _=>len - (intOf i).toNat)
 case atStart=>exact ⟨0,Ky _,rfl,rfl,fun i hi=>by omega,b2,Kp _ _⟩
 case round=>
  obtain ⟨k,hk,rfl,rfl,hall,UF,kj⟩:=hrel;have HA:bN (∀ i,i < k->pn major Z i=true):=hall;have he:=A4 k hall;clear hall;obtain ⟨he0,he1⟩:=he;have he1:=he1 h1;have hsz:w.heap.size+1+1 < wr.heap.size:=by have:=kj.size; omega
  have hsz0:w.heap.size < wr.heap.size:=zw
  have hsz1:w.heap.size+1 < wr.heap.size:=zw
  have hB:B_ w.heap.size w wr:=b1.trans (kj.mono zw);have r4:wr.heap[w.heap.size]? =o_ (c_ #[Value.int IntKind.i64 major,Value.slice (o_ ⟨g,0,n_⟩) len cap] 26):=(kj.block _ zw).trans b4;have r3:wr.heap[w.heap.size+1]? =o_ (c_ T 65):=(kj.block _ zw).trans b3;have m0:wr.cell? ⟨w.heap.size,0,n_⟩=o_ (i_ j_ major):=by simp [World.cell?,r4]
  have ei:bN (wr.heap[w.heap.size+1]? =o_ (c_ T 65)):=r3;clear r3 r4;have HTab:bN (wr.rowIs (w.heap.size+1+1) 65 62 (va major len Z k)):=UF;clear UF;by_cases hlt:k < len
  .have Vo:lT wr g len Z:=hr.of_block (hB.block g hgl)
   have c0:wr.cell? ⟨g,k * 3,n_⟩=o_ (i_ j_ (Z (k * 3))):=Vo.cell zw;have c1:wr.cell? ⟨g,k * 3+1,n_⟩=o_ (i_ j_ (Z (k * 3+1))):=Vo.cell zw;have c2:wr.cell? ⟨g,k * 3+2,n_⟩=o_ (i_ j_ (Z (k * 3+2))):=Vo.cell zw;clear Vo;have q0:=hz (k * 3);have q0':=hz (k * 3+1);have HST:bN (∀ wx:w_,wx.rowIs (w.heap.size+1+1) 65 62 (va major len Z k)->(((wx.setCell ⟨w.heap.size+1+1,2+k * 3,n_⟩ (i_ j_ (Z (k * 3)))).setCell ⟨w.heap.size+1+1,2+k * 3+1,n_⟩ (i_ j_ (Z (k * 3+1)))).setCell ⟨w.heap.size+1+1,2+k * 3+2,n_⟩ (i_ j_ (Z (k * 3+2)))).rowIs (w.heap.size+1+1) 65 62 (va major len Z (k+1))):=fun wx hx=>Vi hx
   have HE:bN (o7 Z (k+1)=Z (k * 3)+Z (k * 3+1)):=rfl;have HW:bN (pn major Z k=BX major (o7 Z k) (Z (k * 3)) (Z (k * 3+1)) (Z (k * 3+2))):=rfl;generalize Z (k * 3)=a at *;generalize Z (k * 3+1)=l at *;generalize Z (k * 3+2)=p at *;generalize o7 Z k=en at *;clear hz hr;cases TX:BX major en a l p with
   | false=>
    go_wp2_with (first | (go_at_call 62; refine (C2 _ _ _ _ _ _ he0 h1 h2).mono ?_; rintro e w1 ⟨rfl,hb1⟩; rw [TX]; have z1:=hb1.size; have R1:=(hb1.block (w.heap.size+1) ZbZ).trans ((PU zw).trans ei.I); simp only [RR] at z1) | (refine j3 rfl rfl T HT.I ?_) | (refine fC rfl (.tmp 2) (.tmp 43) rfl (w.heap.size+1) T (by rfl) (by rfl) T Zci hs hs ho ?_));refine KT (ma (cs:=T) (b:=false) (g:=w.heap.size+1) (t:=65) (fr:=(0,0)) rfl rfl ?_ hs) rfl ⟨.inr ⟨fun hh=> ?_,by rw [HT.I]⟩,?_⟩
    .exact KU _ _ T _ _ _ R1
    .have:=hh k hlt; rw [HW.I,TX] at this; cases this
    .exact kz ((hB.alloc zw _).trans (hb1.mono ZbZ)) zw _
   | true=>
    have hwo:=TO TX;go_wp2_with fail;refine (C2 _ _ _ _ _ _ he0 h1 h2).mono ?_;rintro e w1 ⟨rfl,hb1⟩;rw [TX];have z1:=hb1.size;have hr1:w1.rowIs (w.heap.size+1+1) 65 62 (va major len Z k):=(HTab.I.alloc _).of_block (hb1.block _ ZbZ);have d0:=hr1.cell (i:=2+k * 3) zw;have d1:=hr1.cell (i:=2+k * 3+1) zw;have d2:=hr1.cell (i:=2+k * 3+2) zw;have f0:=hr1.frozen (2+k * 3);have f1:=hr1.frozen (2+k * 3+1);have f2:=hr1.frozen (2+k * 3+2);have e0:w1.cell? ⟨wr.heap.size,0,n_⟩=o_ (i_ j_ a):=(hb1.cell (p:=⟨wr.heap.size,0,n_⟩) zy).trans zy;have e1:w1.cell? ⟨wr.heap.size,1,n_⟩=o_ (i_ j_ l):=(hb1.cell (p:=⟨wr.heap.size,1,n_⟩) zy).trans zy;have e2:w1.cell? ⟨wr.heap.size,2,n_⟩=o_ (i_ j_ p):=(hb1.cell (p:=⟨wr.heap.size,2,n_⟩) zy).trans zy;simp only [RR] at z1;have pG:bN (w1.rowIs (w.heap.size+1+1) 65 62 (va major len Z k)):=hr1;have fQ:bN (B_ w.heap.size w w1/\B_ (w.heap.size+1+1) W0 w1):=⟨(hB.alloc zw _).trans (hb1.mono ZbZ),(kj.alloc zw _).trans (hb1.mono ZbZ)⟩
    clear hr1 hb1 kj hB;go_wp2;go_roundw
    case rel=>
     refine ⟨k+1,zw,by go_num,by rw [HE.I],?_,HST.I _ pG.I,((fQ.I.2.setCell (Ki _) _).setCell (Ki _) _).setCell (Ki _) _⟩;intro i hi;by_cases e:i=k
     .subst e; rw [HW.I]; exact TX
     .exact HA.I i zw
    case measure=>simp [intOf]; omega
  .have e:k=len:=zw
   subst e;obtain ⟨cs,hcs,VD,hcc⟩:=HTab.I;have UF:P2 major k Z cs:=⟨VD,hcc⟩
   have hcc1:=UF.one;have HI:bN (P2 major k Z cs):=UF;have HC:bN (wr.heap[w.heap.size+1+1]? =o_ (c_ cs 65)):=hcs;clear UF hcc hcs hlt hz hr;go_wp2_with (first | (refine LS rfl 65 (.tmp 4) rfl (w.heap.size+1+1) (by rfl) 65 cs (0,0) _ HC.I underlying65 rfl (by rw [Dw,VD]) ?_) | (refine fC rfl (.tmp 2) (.tmp 54) rfl (w.heap.size+1) cs (by rfl) (by rfl) T ei.I hs VD hcc1 ?_));refine KT (ma (cs:=cs) (b:=true) (g:=w.heap.size+1) (t:=65) (fr:=(0,0)) rfl rfl ?_ VD) rfl ⟨.inl ⟨HA.I,cs,rfl,HI.I⟩,?_⟩
   .exact KU _ _ T _ _ _ ei.I
   .exact kz hB zw _
def TV (major:Int) (g len cap:Nat) (Z:Nat->Int) (w:w_) (hl:len<=1048576) (hz: ∀ j,-9223372036854775808<=Z j/\Z j<=9223372036854775807) (hr:lT w g len Z):
  k_ J3 34 #[a_ #[i_ j_ major,s_ (o_ ⟨g,0,n_⟩) len cap]] w fun e w'=>
   ((nn major len Z=true/\ ∃ cs,e=r_ (u_ #[a_ cs,b_ true])/\P2 major len Z cs)\/(nn major len Z=false/\e=r_ (u_ #[a_ tx,b_ false])))/\B_ w.heap.size w w':=by
 by_cases h:major < 1\/1000 < major\/20 < len
 .refine (Up major g len cap w hl h).mono ?_
  rintro e w' ⟨rfl,hb⟩;exact ⟨.inr ⟨mm zw,rfl⟩,hb⟩
 .refine (T4 major g len cap Z w zw zw zw hz hr).mono ?_
  rintro e w' ⟨⟨ha,cs,rfl,hc⟩ | ⟨ha,rfl⟩,hb⟩
  .exact ⟨.inl ⟨PE ⟨zw,zw,zw,ha⟩,cs,rfl,hc⟩,hb⟩
  .exact ⟨.inr ⟨mm (fun hh=>ha hh.2.2.2),rfl⟩,hb⟩
def Tg:Array v_:=Array.replicate 63 (i_ j_ 0) ++ #[.map n_,s_ n_ 0 0]
def B3 (bj:Int) (tab:Array v_) (b:Nat) (a:Option d_) (n cap:Nat) (j:Nat):v_:=
 if j=0 then i_ j_ bj else if j=64 then s_ a n cap else if j=63 then .map (o_ b) else (tab[j - 1]?).getD undef
def UV (parts:List (Nat × v_)):Tryz.prog.built 69 parts=Instr.fill (#[(0,1),(1,62),(63,1),(64,1)][·]?) Tg parts:=by kernel_rfl
def To {place:Nat->Option (Nat × Nat)} {cells:Array v_} {i off size:Nat} {v:v_} {rest:List (Nat × v_)} (hp:place i=o_ (off,size)) (h1:v.cells.size=size) (h2:off+v.cells.size<=cells.size):
  Instr.fill place cells ((i,v) :: rest)=Instr.fill place (v.cells.zipIdx.foldl (fun cs (x:v_ × Nat)=>cs.setIfInBounds (off+x.2) x.1) cells) rest:=by
 rw [Instr.fill,hp];simp only;rw [if_neg (by simp [h1]; omega)]
def UH (m:Int) (T:Array v_) (b:Nat) (hT:T.size=62): ∃ cs,Tryz.prog.built 69 [(0,i_ j_ m),(1,a_ T),(2,.map (o_ b))] =o_ cs/\cs.size=65/\ ∀ j,j < 65->cs[j]? =o_ (B3 m T b n_ 0 0 j):=by
 obtain ⟨h1,h2⟩:=Go.Great.foldl_set 1 T.toList 0 (Tg.setIfInBounds 0 (i_ j_ m));have hz:Tg.size=65:=by simp [Tg]
 have e:T.zipIdx.foldl (fun cs (x:v_ × Nat)=>cs.setIfInBounds (1+x.2) x.1) (Tg.setIfInBounds 0 (i_ j_ m))=(T.toList.zipIdx 0).foldl (fun cs (x:v_ × Nat)=>cs.setIfInBounds (1+x.2) x.1) (Tg.setIfInBounds 0 (i_ j_ m)):=by
  rw [<- Array.foldl_toList];simp
 refine ⟨((T.toList.zipIdx 0).foldl (fun cs (x:v_ × Nat)=>cs.setIfInBounds (1+x.2) x.1) (Tg.setIfInBounds 0 (i_ j_ m))).setIfInBounds 63 (.map (o_ b)),?_,?_,?_⟩
 .rw [UV]
  have hzs:(Tg.setIfInBounds 0 (i_ j_ m)).size=65:=by rw [aem,hz]
  rw [To (off:=0) (size:=1) (v:=i_ j_ m) rfl rfl (by rw [hz]; show 0+1<=65; decide)]
  show Instr.fill _ (Tg.setIfInBounds 0 (i_ j_ m)) _=_
  rw [To (off:=1) (size:=62) (v:=a_ T) rfl hT (by rw [hzs]; show 1+T.size<=65; omega)]
  show Instr.fill _ (T.zipIdx.foldl (fun cs (x:v_ × Nat)=>cs.setIfInBounds (1+x.2) x.1) (Tg.setIfInBounds 0 (i_ j_ m))) _=_
  rw [e,To (off:=63) (size:=1) (v:= .map (o_ b)) rfl rfl (by rw [h1,hzs]; show 63+1<=65; decide)];rfl
 .rw [aem,h1,aem,hz]
 .intro j hj
  rw [Array.getElem?_setIfInBounds,h1,aem,hz];by_cases h63:63=j
  .subst h63; simp [B3]
  rw [if_neg h63,h2 j,aem,hz,aen,hT,Array.getElem?_setIfInBounds];by_cases h0:j=0
  .subst h0; simp [B3,hz]
  by_cases h64:j=64
  .subst h64; simp [B3,Tg]
  rw [if_pos zw];have hl:j - (1+0) < T.toList.length:=by rw [aen]; omega
  rw [Kz hl];unfold B3;rw [if_neg h0,if_neg h64,if_neg (Ne.symm h63)];rw [Qb zw];simp
end
section
attribute [local go_sem] Oper.semAt_some
def P2.count {m:Int} {n:Nat} {Z:Nat->Int} {cs:Array v_} (h:P2 m n Z cs):cs[1]? =o_ (i_ j_ n):=by
 rw [h.2 1 (by decide)]; rfl
def P2.major {m:Int} {n:Nat} {Z:Nat->Int} {cs:Array v_} (h:P2 m n Z cs):cs[0]? =o_ (i_ j_ m):=by
 rw [h.2 0 (by decide)]; rfl
def P2.win {m:Int} {n:Nat} {Z:Nat->Int} {cs:Array v_} (h:P2 m n Z cs) (hn:n<=20) {j:Nat} (hj:j < n * 3):cs[2+j]? =o_ (i_ j_ (Z j)):=by
 rw [h.2 (2+j) zw];unfold va;rw [if_neg zw,if_neg zw,if_pos zw,show 2+j - 2=j by omega]

def an9 (Z:Nat->Int) (x:Int) (i:Nat):Bool:=decide (Z (i * 3)<=x/\x < Z (i * 3)+Z (i * 3+1))
def an5 (Z:Nat->Int) (len:Nat) (x:Int):Int:=match (List.range len).find? (an9 Z x) with
 | some i=>Z (i * 3+2)
 | none=>0
def aoh {Z:Nat->Int} {len k:Nat} {x:Int} (hk:k < len) (h:an9 Z x k=true) (hb: ∀ i,i < k->an9 Z x i=false):an5 Z len x=Z (k * 3+2):=by
 have:(List.range len).find? (an9 Z x)=o_ k:=by
  rw [List.find?_range_eq_some];exact ⟨h,by simpa using hk,fun j hj=>by simp [hb j hj]⟩
 simp only [an5,this]
def an8 {Z:Nat->Int} {len:Nat} {x:Int} (hb: ∀ i,i < len->an9 Z x i=false):an5 Z len x=0:=by
 have:(List.range len).find? (an9 Z x)=n_:=by
  rw [List.find?_range_eq_none];exact fun i hi=>by simp [hb i hi]
 simp only [an5,this]
def aoN {Z:Nat->Int} {x:Int} {i:Nat} (h:Z (i * 3)<=x/\x < Z (i * 3)+Z (i * 3+1)):an9 Z x i=true:=by simp only [an9]; exact decide_eq_true h
def aoi {Z:Nat->Int} {x:Int} {i:Nat} (h: ¬ (Z (i * 3)<=x/\x < Z (i * 3)+Z (i * 3+1))):an9 Z x i=false:=by simp only [an9]; exact decide_eq_false h
def aod {major:Int} {Z:Nat->Int} {len i:Nat} (h: ∀ i,i < len->pn major Z i=true) (hi:i < len):
  0<=Z (i * 3)/\1<=Z (i * 3+1)/\Z (i * 3)+Z (i * 3+1)<=major/\1<=Z (i * 3+2)/\Z (i * 3+2)<=6:=by
 have h1:=TO (h i hi);have h2:=A4 (major:=major) (Z:=Z) i (fun j hj=>h j zw);omega
def aoZ (major t:Int) (g len cap:Nat) (Z:Nat->Int) (w:w_) (hl:len<=20) (h1:1<=major) (h2:major<=1000) (h3: ∀ i,i < len->pn major Z i=true) (t0:0<=t) (t1:t<=2000000000) (hr:lT w g len Z):
  k_ J3 139 #[a_ #[i_ j_ major,s_ (o_ ⟨g,0,n_⟩) len cap],i_ j_ t] w fun e w'=>e=r_ (i_ j_ (an5 Z len (t % major)))/\B_ w.heap.size w w':=by
 have hgl:=hr.lt;have hm: ¬ major=0:=zw
 have H3:bN (∀ i,i < len->pn major Z i=true):=h3;clear h3;have x0:0<=t % major:=Int.emod_nonneg _ hm;have x1:t % major < major:=Int.emod_lt_of_pos _ zw
 go_enter func139,ntmps139
 go_wp2;obtain ⟨x,hx⟩: ∃ x,t % major=x:=⟨_,rfl⟩
 rw [hx] at x0 x1 ⊢;have HX:bN (t % major=x):=hx;clear hx
 go_loopw [6] (fun i wr=> ∃ k:Nat,k<=len/\i=i_ j_ k/\(∀ i,i < k->an9 Z x i=false)/\B_ (w.heap.size+1) (w.alloc (c_ #[i_ j_ major,s_ (o_ ⟨g,0,n_⟩) len cap] 26)) wr) (fun i _=>len - (intOf i).toNat)
 case atStart=>exact ⟨0,Ky _,rfl,fun i hi=>by omega,Kp _ _⟩
 case round=>
  obtain ⟨k,hk,rfl,hno,kj⟩:=hrel;have HN:bN (∀ i,i < k->an9 Z x i=false):=hno;clear hno;have hs:w.heap.size < wr.heap.size:=by have:=kj.size; simp only [RR] at this; omega
  have m0:wr.cell? ⟨w.heap.size,0,n_⟩=o_ (i_ j_ major):=(kj.cell (p:=⟨w.heap.size,0,n_⟩) zy).trans zy;have m1:wr.cell? ⟨w.heap.size,1,n_⟩=o_ (s_ (o_ ⟨g,0,n_⟩) len cap):=(kj.cell (p:=⟨w.heap.size,1,n_⟩) zy).trans zy;have hB:B_ w.heap.size w wr:=((Kp _ _).alloc (Ki _) _).trans (kj.mono zw);by_cases hlt:k < len
  .have Vo:lT wr g len Z:=(hr.alloc _).of_block (kj.block g zw)
   have c0:wr.cell? ⟨g,k * 3,n_⟩=o_ (i_ j_ (Z (k * 3))):=Vo.cell zw;have c1:wr.cell? ⟨g,k * 3+1,n_⟩=o_ (i_ j_ (Z (k * 3+1))):=Vo.cell zw;have c2:wr.cell? ⟨g,k * 3+2,n_⟩=o_ (i_ j_ (Z (k * 3+2))):=Vo.cell zw;clear Vo hr;have hw:=aod H3.I hlt;have HH:bN (Z (k * 3)<=x/\x < Z (k * 3)+Z (k * 3+1)->an5 Z len x=Z (k * 3+2)):=fun hh=>aoh hlt (aoN hh) HN.I
   have HM:bN (¬ (Z (k * 3)<=x/\x < Z (k * 3)+Z (k * 3+1))-> ∀ i,i < k+1->an9 Z x i=false):=fun hh i hi=>by
    by_cases e:i=k
    .subst e; exact aoi hh
    .exact HN.I i zw
   generalize Z (k * 3)=a at *;generalize Z (k * 3+1)=l at *;generalize Z (k * 3+2)=p at *;obtain ⟨w0,w1,w2,w3,w4⟩:=hw;by_cases q1:x < a
   .exact ZaM
   by_cases q2:x < a+l
   .go_wp2
    go_ret;exact ⟨ck (by rw [HX.I]; exact (HH.I zw).symm),hB.alloc zw _⟩
   .exact ZaM
  .go_wp2
   go_ret;have e:k=len:=zw
   subst e;exact ⟨ck (by rw [HX.I]; exact (an8 HN.I).symm),hB⟩
end
section
def mn (id next:Int):v_:=a_ #[i_ j_ id,i_ j_ next,s_ n_ 0 0,s_ n_ 0 0,s_ n_ 0 0,s_ n_ 0 0,s_ n_ 0 0,s_ n_ 0 0]
def tJ (id:Int) (w:w_):k_ J3 86 #[i_ j_ id] w fun e w'=>e=r_ (u_ #[if cv id 1 6=true then mn id 1 else mn 0 0,b_ (cv id 1 6)])/\B_ w.heap.size w w':=by
 cases h:cv id 1 6 with
 | true=>
  go_enter func86,ntmps86
  go_wp2_with (go_at_call 41; refine (dx _ _ _ _).mono ?_; rintro e w' ⟨rfl,rfl⟩; rw [h]);exact KT (v:=u_ #[mn id 1,b_ true]) (by simp [results,results86,go_sem,mn]) rfl ⟨rfl,by go_grown⟩
 | false=>
  go_enter func86,ntmps86
  go_wp2_with (go_at_call 41; refine (dx _ _ _ _).mono ?_; rintro e w' ⟨rfl,rfl⟩; rw [h]);exact KT (v:=u_ #[mn 0 0,b_ false]) (by simp [results,results86,go_sem,mn]) rfl ⟨rfl,by go_grown⟩
def DG (a:Option d_) (len cap:Nat) (w:w_):k_ J3 5 #[s_ a len cap] w fun e w'=>e=r_ (b_ (decide (1048576 < len)))/\w'=w:=by
 by_cases h:1048576 < len
 .have h':(1048576:Int) < (len:Int):=zw
  go_enter func5,ntmps5
  go_wp2;go_ret;exact ⟨al (by simp [h]),rfl⟩
 .have h': ¬ (1048576:Int) < (len:Int):=zw
  go_enter func5,ntmps5
  go_wp2;go_ret;exact ⟨al zy,rfl⟩
end
end Go.Proofs.YtckenjkcmajicaaGreat
