/- What the proof leans on, part 7. -/
import Derived.Test.YtkbcplnlehdjfaaGreatOwnP6
import Derived.Deep.AppendLies
import Derived.Lib.Join
set_option maxRecDepth 100000
set_option maxHeartbeats 8000000
open Array renaming getElem?_eq_some_iff->J2
open ByteArray renaming size_append->QH
open Go renaming cell_of_row->K5,heap_alloc_new->Kj,wpList_append_own_at->KD
open Go.IntKind renaming wrap_i64->K8
open Go.Proofs.Tryz renaming func184->QF,func284->QA,ntmps184->QG,ntmps284->QB,prog->J3,underlying37->QD
open Go.RowKit.Below renaming refl->Kp
open Go.World renaming news_of_block->KE
open List renaming getElem?_eq_getElem->Kz,getElem?_eq_some_iff->Lj,getElem?_map->Kk,length_map->KG,mem_append->Kg,mem_cons->Kt,mem_of_getElem?->KA,mem_singleton->KB,take_of_length_le->KF,take_succ_eq_append_getElem->QE
open Nat renaming le_refl->Ki,zero_le->Ky

namespace Go.Proofs.YtkbcplnlehdjfaaGreat
open Go.RowKit
structure bD where
 id:Int
 n:Int
 max:Int
def yz (x:bD):List Value:= [.int .i64 x.id,.int .i64 x.n,.int .i64 x.max]
def dm:Kind bD:=⟨3,yz,fun _=> [],by decide,fun _=>rfl⟩
def bD.At (w:World) (g i:Nat) (x:bD):Prop:=w.cell? ⟨g,i * 3,none⟩=some (.int .i64 x.id)∧w.cell? ⟨g,i * 3+1,none⟩=some (.int .i64 x.n)∧w.cell? ⟨g,i * 3+2,none⟩=some (.int .i64 x.max)
theorem lQ {w:World} {a:Option Addr} {l:List bD} (h:dm.bU w a l) {i:Nat} {x:bD} (hx:l[i]? =some x): ∃ g,a=some ⟨g,0,none⟩∧bD.At w g i x:=by
 obtain ⟨g,e,hc⟩:=h.at hx;exact ⟨g,e,hc 0 _ rfl,hc 1 _ rfl,hc 2 _ rfl⟩
structure aB where
 id:Int
 up:Bool
def rY (x:aB):List Value:= [.int .i64 x.id,.bool x.up]
def bJ:Kind aB:=⟨2,rY,fun _=> [],by decide,fun _=>rfl⟩
def aB.At (w:World) (g i:Nat) (x:aB):Prop:=w.cell? ⟨g,i * 2,none⟩=some (.int .i64 x.id)∧w.cell? ⟨g,i * 2+1,none⟩=some (.bool x.up)
theorem j4 {w:World} {a:Option Addr} {l:List aB} (h:bJ.bU w a l) {i:Nat} {x:aB} (hx:l[i]? =some x): ∃ g,a=some ⟨g,0,none⟩∧aB.At w g i x:=by
 obtain ⟨g,e,hc⟩:=h.at hx;exact ⟨g,e,hc 0 _ rfl,hc 1 _ rfl⟩
structure az where
 id:Int
 shown:Bool
 text:ByteArray
def sn (x:az):List Value:= [.int .i64 x.id,.bool x.shown,.string x.text]
def bG:Kind az:=⟨3,sn,fun _=> [],by decide,fun _=>rfl⟩
def az.At (w:World) (g i:Nat) (x:az):Prop:=w.cell? ⟨g,i * 3,none⟩=some (.int .i64 x.id)∧w.cell? ⟨g,i * 3+1,none⟩=some (.bool x.shown)∧w.cell? ⟨g,i * 3+2,none⟩=some (.string x.text)
theorem jr {w:World} {a:Option Addr} {l:List az} (h:bG.bU w a l) {i:Nat} {x:az} (hx:l[i]? =some x): ∃ g,a=some ⟨g,0,none⟩∧az.At w g i x:=by
 obtain ⟨g,e,hc⟩:=h.at hx;exact ⟨g,e,hc 0 _ rfl,hc 1 _ rfl,hc 2 _ rfl⟩
structure ci where
 id:Int
 max:Int
 Ma:List ByteArray
structure au extends ci where
 ak:Option Addr
 aq:Nat
def nD (x:au):List Value:= [.int .i64 x.id,.int .i64 x.max,.slice x.ak x.Ma.length x.aq]
def bm:Kind au:=⟨3,nD,fun x=> [(x.ak,bT.flat x.Ma)],by decide,fun _=>rfl⟩
def au.At (w:World) (g i:Nat) (x:au):Prop:=w.cell? ⟨g,i * 3,none⟩=some (.int .i64 x.id)∧w.cell? ⟨g,i * 3+1,none⟩=some (.int .i64 x.max)∧w.cell? ⟨g,i * 3+2,none⟩=some (.slice x.ak x.Ma.length x.aq)
theorem iA {w:World} {a:Option Addr} {l:List au} (h:bm.bU w a l) {i:Nat} {x:au} (hx:l[i]? =some x): ∃ g,a=some ⟨g,0,none⟩∧au.At w g i x:=by
 obtain ⟨g,e,hc⟩:=h.at hx;exact ⟨g,e,hc 0 _ rfl,hc 1 _ rfl,hc 2 _ rfl⟩
theorem lj {w:World} {a:Option Addr} {l:List au} (h:bm.bU w a l) {i:Nat} {x:au} (hx:l[i]? =some x):Row w x.ak (bT.flat x.Ma):=h.bt hx (r:=(x.ak,bT.flat x.Ma)) (by simp [bm])
structure dS where
 id:Int
 I:Bool
 Mf:Bool
 max:Int
 Ma:List ByteArray
structure aM extends dS where
 ak:Option Addr
 aq:Nat
def qT (x:aM):List Value:= [.int .i64 x.id,.bool x.I,.bool x.Mf,.int .i64 x.max,.slice x.ak x.Ma.length x.aq]
def bX:Kind aM:=⟨5,qT,fun x=> [(x.ak,bT.flat x.Ma)],by decide,fun _=>rfl⟩
def aM.At (w:World) (g i:Nat) (x:aM):Prop:=w.cell? ⟨g,i * 5,none⟩=some (.int .i64 x.id)∧w.cell? ⟨g,i * 5+1,none⟩=some (.bool x.I)∧w.cell? ⟨g,i * 5+2,none⟩=some (.bool x.Mf)∧w.cell? ⟨g,i * 5+3,none⟩=some (.int .i64 x.max)∧w.cell? ⟨g,i * 5+4,none⟩=some (.slice x.ak x.Ma.length x.aq)
theorem lm {w:World} {a:Option Addr} {l:List aM} (h:bX.bU w a l) {i:Nat} {x:aM} (hx:l[i]? =some x): ∃ g,a=some ⟨g,0,none⟩∧aM.At w g i x:=by
 obtain ⟨g,e,hc⟩:=h.at hx;exact ⟨g,e,hc 0 _ rfl,hc 1 _ rfl,hc 2 _ rfl,hc 3 _ rfl,hc 4 _ rfl⟩
theorem nJ {w:World} {a:Option Addr} {l:List aM} (h:bX.bU w a l) {i:Nat} {x:aM} (hx:l[i]? =some x):Row w x.ak (bT.flat x.Ma):=h.bt hx (r:=(x.ak,bT.flat x.Ma)) (by simp [bX])
structure aD where
 id:Int
 RX:Int
 prog:List dN
 Md:Int
 pc:Int
 left:Int
 Mg:Int
 on:Int
 held:ByteArray
 got:ByteArray
 code:Int
 RU:Int
structure ao extends aD where
 aY:Option Addr
 bH:Nat
def qN (x:ao):List Value:= [.int .i64 x.id,.int .i64 x.RX,.slice x.aY x.prog.length x.bH,.int .i64 x.Md,.int .i64 x.pc,.int .i64 x.left,.int .i64 x.Mg,.int .i64 x.on,.string x.held,.string x.got,.int .i64 x.code,.int .i64 x.RU]
def bg:Kind ao:=⟨12,qN,fun x=> [(x.aY,fk.flat x.prog)],by decide,fun _=>rfl⟩
def ao.At (w:World) (g i:Nat) (x:ao):Prop:=w.cell? ⟨g,i * 12,none⟩=some (.int .i64 x.id)∧w.cell? ⟨g,i * 12+1,none⟩=some (.int .i64 x.RX)∧w.cell? ⟨g,i * 12+2,none⟩=some (.slice x.aY x.prog.length x.bH)∧w.cell? ⟨g,i * 12+3,none⟩=some (.int .i64 x.Md)∧w.cell? ⟨g,i * 12+4,none⟩=some (.int .i64 x.pc)∧w.cell? ⟨g,i * 12+5,none⟩=some (.int .i64 x.left)∧w.cell? ⟨g,i * 12+6,none⟩=some (.int .i64 x.Mg)∧w.cell? ⟨g,i * 12+7,none⟩=some (.int .i64 x.on)∧w.cell? ⟨g,i * 12+8,none⟩=some (.string x.held)∧w.cell? ⟨g,i * 12+9,none⟩=some (.string x.got)∧w.cell? ⟨g,i * 12+10,none⟩=some (.int .i64 x.code)∧w.cell? ⟨g,i * 12+11,none⟩=some (.int .i64 x.RU)
theorem cn {w:World} {a:Option Addr} {l:List ao} (h:bg.bU w a l) {i:Nat} {x:ao} (hx:l[i]? =some x): ∃ g,a=some ⟨g,0,none⟩∧ao.At w g i x:=by
 obtain ⟨g,e,hc⟩:=h.at hx;exact ⟨g,e,hc 0 _ rfl,hc 1 _ rfl,hc 2 _ rfl,hc 3 _ rfl,hc 4 _ rfl,hc 5 _ rfl,hc 6 _ rfl,hc 7 _ rfl,hc 8 _ rfl,hc 9 _ rfl,hc 10 _ rfl,hc 11 _ rfl⟩
theorem lA {w:World} {a:Option Addr} {l:List ao} (h:bg.bU w a l) {i:Nat} {x:ao} (hx:l[i]? =some x):Row w x.aY (fk.flat x.prog):=h.bt hx (r:=(x.aY,fk.flat x.prog)) (by simp [bg])
structure af where
 id:Int
 next:Int
 L8:List ao
 aN:Option Addr
 aW:Nat
 aj:List bD
 bc:Option Addr
 bF:Nat
 L9:List aB
 ay:Option Addr
 aO:Nat
 ag:List az
 ax:Option Addr
 aP:Nat
 ae:List au
 am:Option Addr
 aG:Nat
 ai:List aM
 aK:Option Addr
 aV:Nat
def af.cells (p:af):Array Value:= #[.int .i64 p.id,.int .i64 p.next,.slice p.aN p.L8.length p.aW,.slice p.bc p.aj.length p.bF,.slice p.ay p.L9.length p.aO,.slice p.ax p.ag.length p.aP,.slice p.am p.ae.length p.aG,.slice p.aK p.ai.length p.aV]
def af.At (w:World) (p:af):Prop:=bg.bU w p.aN p.L8∧dm.bU w p.bc p.aj∧bJ.bU w p.ay p.L9∧bG.bU w p.ax p.ag∧bm.bU w p.am p.ae∧bX.bU w p.aK p.ai
theorem af.At.below {w w':World} {p:af} (h:af.At w p) (hb:Below w.heap.size w w'):af.At w' p:=⟨h.1.below hb,h.2.1.below hb,h.2.2.1.below hb,h.2.2.2.1.below hb,h.2.2.2.2.1.below hb,h.2.2.2.2.2.below hb⟩
structure aE where
 id:Int
 next:Int
 L8:List aD
 aj:List bD
 L9:List aB
 ag:List az
 ae:List ci
 ai:List dS
def af.pure (p:af):aE:=⟨p.id,p.next,p.L8.map (·.toaD),p.aj,p.L9,p.ag,p.ae.map (·.toci),p.ai.map (·.todS)⟩
def place (l:List Int) (id:Int) (i:Nat):Int:=match l with
 | [] => -1
 | x :: r=>if x=id then i else place r id (i+1)
theorem z8: ∀ (l:List Int) (id:Int) (i:Nat),place l id i= -1∨(i:Int)≤place l id i
 | [],_,_=> .inl rfl
 | y :: r,id,i=>by
  simp only [place]
  split
  ·exact .inr (by omega)
  ·rcases z8 r id (i+1) with h | h
   ·exact .inl h
   ·exact .inr (by omega)
theorem nN: ∀ {l:List Int} {id:Int} {i:Nat},place l id i= -1↔id∉l
 | [],id,i=>by simp [place]
 | y :: r,id,i=>by
  simp only [place,Kt,not_or]
  split
  ·rename_i h
   constructor
   ·intro h2; omega
   ·intro h2; exact absurd h.symm h2.1
  ·rename_i h
   rw [nN (l:=r)];exact ⟨fun h2=>⟨fun e=>h e.symm,h2⟩,fun h2=>h2.2⟩
theorem ku {l:List Int} {id:Int} {k:Nat} (h:id∉l.take k) {x:Int} (hx:l[k]? =some x) (e:x=id):place l id 0=k:=by
 have hk:k < l.length:=(Lj.1 hx).1;have e1:l=l.take k ++ x :: l.drop (k+1):=by
  have:=List.take_append_drop k l
  rw [List.drop_eq_getElem_cons hk] at this;rw [← this];rw [Kz hk] at hx;cases hx;simp
 have key: ∀ (t:List Int) (i:Nat),id∉t→place (t ++ x :: l.drop (k+1)) id i=((i+t.length:Nat):Int):=by
  intro t
  induction t with
  | nil=>intro i _; simp [place,e]
  | cons y r ih=>
   intro i hn;simp only [Kt,not_or] at hn;simp only [List.cons_append,place];rw [if_neg (fun h=>hn.1 h.symm),ih (i+1) hn.2];simp only [List.length_cons];rw [show i+1+r.length=i+(r.length+1) by omega]
 have:=key (l.take k) 0 h
 rw [← e1] at this;rw [this,List.length_take]
 congr 1
 omega
abbrev af.row (p:af):Array Value:= #[.int .i64 p.id,.int .i64 p.next,.slice p.aN p.L8.length p.aW,.slice p.bc p.aj.length p.bF,.slice p.ay p.L9.length p.aO,.slice p.ax p.ag.length p.aP,.slice p.am p.ae.length p.aG,.slice p.aK p.ai.length p.aV]
abbrev af.L6 (p:af) (g:Nat):Array Value:= #[.int .i64 p.id,.int .i64 p.next,.slice (some ⟨g,0,none⟩) p.L8.length p.aW,.slice p.bc p.aj.length p.bF,.slice p.ay p.L9.length p.aO,.slice p.ax p.ag.length p.aP,.slice p.am p.ae.length p.aG,.slice p.aK p.ai.length p.aV]
abbrev ao.row (x:ao):Array Value:= #[.int .i64 x.id,.int .i64 x.RX,.slice x.aY x.prog.length x.bH,.int .i64 x.Md,.int .i64 x.pc,.int .i64 x.left,.int .i64 x.Mg,.int .i64 x.on,.string x.held,.string x.got,.int .i64 x.code,.int .i64 x.RU]
abbrev ar:Array Value:= #[.int .i64 0,.int .i64 0,.slice none 0 0,.slice none 0 0,.slice none 0 0,.slice none 0 0,.slice none 0 0,.slice none 0 0]
abbrev cE:Array Value:= #[.int .i64 0,.int .i64 0,.slice none 0 0,.int .i64 0,.int .i64 0,.int .i64 0,.int .i64 0,.int .i64 0,.string ⟨#[]⟩,.string ⟨#[]⟩,.int .i64 0,.int .i64 0]
end Go.Proofs.YtkbcplnlehdjfaaGreat

namespace Go.Proofs.YtkbcplnlehdjfaaGreat
open Go.RowKit
theorem vv (g len cap:Nat) (K N M:Nat→Int) (S:Nat→ByteArray) (w:World) (hl:len≤1048576) (hs: ∀ i,i < len→(S i).size≤1048576) (hr:iG w g len K N M S):
  Calls J3 183 #[.slice (some ⟨g,0,none⟩) len cap] w fun e w'=>e= .returned (.bool (nq len K N M S))∧Below w.heap.size w w':=by
 have HR:Hid (iG w g len K N M S):=hr;have HS:Hid (∀ i,i < len→(S i).size≤1048576):=hs;clear hr hs
 go_enter Tryz.func183,Tryz.ntmps183
 go_wp2
 go_loopw [3] (fun i wr=> ∃ k:Nat,k≤len∧i= .int .i64 k∧(∀ j,j < k→j8 K N M S j=true)∧Below w.heap.size w wr) (fun i _=>len - (intOf i).toNat)
 case atStart=>exact ⟨0,Ky _,rfl,fun j hj=>absurd hj (by omega),Kp _ _⟩
 case round=>
  obtain ⟨k,hk,rfl,hall,kj⟩:=hrel;have HA:Hid (∀ j,j < k→j8 K N M S j=true):=hall;have HB:Hid (Below w.heap.size w wr):=kj;have HW:Hid (iG wr g len K N M S):=HR.I.below kj;clear hall kj;by_cases hlt:k < len
  ·have c0:=HW.I.c0 hlt
   have c1:=HW.I.c1 hlt;have c2:=HW.I.c2 hlt;have c3:=HW.I.c3 hlt;have i0:(0:Int)≤(k:Int):=by omega
   have i1:(k:Int) < (len:Int):=by omega
   go_wp2_with fail;refine (xZ (K k) (N k) (M k) (S k) wr (HS.I k hlt)).mono ?_;rintro e w1 ⟨rfl,hb1⟩;have fQ:Hid (Below w.heap.size w w1):=HB.I.trans (hb1.mono HB.I.size);have HO:Hid (mQ (K k) (N k) (M k) (S k)=j8 K N M S k):=rfl;rw [HO.I];clear hb1 c0 c1 c2 c3;cases hop:j8 K N M S k with
   | true=>
    have HP:Hid (j8 K N M S k=true):=hop;clear hop;go_wp2;go_roundw
    case rel=>exact ⟨k+1,by omega,by go_num,fun j hj=>by
     by_cases e:j=k
     ·subst e; exact HP.I
     ·exact HA.I j (by omega),fQ.I⟩
    case measure=>simp [intOf]; omega
   | false=>
    have HP:Hid (j8 K N M S k=false):=hop;clear hop;go_wp2;go_ret;exact ⟨al (iS (fun h=>by have:=h.2.2 k hlt; rw [HP.I] at this; cases this)).symm,fQ.I⟩
  ·have e:k=len:=by omega
   subst e;by_cases h1:1≤k
   ·have h1':(1:Int)≤(k:Int):=by omega
    by_cases h2:k≤20
    ·have h2':(k:Int)≤20:=by omega
     go_wp2;go_ret;exact ⟨al (by rw [vM ⟨h1,h2,HA.I⟩]),HB.I⟩
    ·have h2': ¬ (k:Int)≤20:=by omega
     go_wp2;go_ret;exact ⟨al (by rw [iS (fun h=>h2 h.2.1)]),HB.I⟩
   ·have h1': ¬ (1:Int)≤(k:Int):=by omega
    go_wp2;go_ret;exact ⟨al (by rw [iS (fun h=>h1 h.1)]),HB.I⟩
theorem tV (g len cap:Nat) (K N M:Nat→Int) (S:Nat→ByteArray) (w:World) (hl:len≤1048576) (hs: ∀ i,i < len→(S i).size≤1048576) (hr:iG w g len K N M S):
  Calls J3 284 #[.slice (some ⟨g,0,none⟩) len cap] w fun e w'=>e= .returned (.bool (nq len K N M S))∧Below w.heap.size w w':=by
 have HR:Hid (iG w g len K N M S):=hr;have HS:Hid (∀ i,i < len→(S i).size≤1048576):=hs;clear hr hs;by_cases h1: ¬ 1≤len
 ·have h1':(len:Int) < 1:=by omega
  go_enter QA,QB
  go_wp2;go_ret;exact ⟨al (iS (fun h=>h1 h.1)).symm,Kp _ _⟩
 have h1': ¬ (len:Int) < 1:=by omega
 by_cases h2:20 < len
 ·have h2':(20:Int) < (len:Int):=by omega
  go_enter QA,QB
  go_wp2;go_ret;exact ⟨al (iS (fun h=>by omega)).symm,Kp _ _⟩
 have h2': ¬ (20:Int) < (len:Int):=by omega
 go_enter QA,QB
 go_wp2_with fail
 go_loopw [15] (fun i wr=> ∃ k:Nat,k≤len∧i= .int .i64 k∧(∀ j,j < k→j8 K N M S j=true)∧Below w.heap.size w wr) (fun i _=>len - (intOf i).toNat)
 case atStart=>exact ⟨0,Ky _,rfl,fun j hj=>absurd hj (by omega),Kp _ _⟩
 case round=>
  obtain ⟨k,hk,rfl,hall,kj⟩:=hrel;have HA:Hid (∀ j,j < k→j8 K N M S j=true):=hall;have HB:Hid (Below w.heap.size w wr):=kj;have HW:Hid (iG wr g len K N M S):=HR.I.below kj;clear hall kj;by_cases hlt:k < len
  ·have c0:=HW.I.c0 hlt
   have c1:=HW.I.c1 hlt;have c2:=HW.I.c2 hlt;have c3:=HW.I.c3 hlt;have i0:(0:Int)≤(k:Int):=by omega
   have i1:(k:Int) < (len:Int):=by omega
   have hgl:=HW.I.1;go_wp2_with fail;refine (yx (K k) (N k) (M k) (S k) _ (HS.I k hlt)).mono ?_;rintro e w1 ⟨rfl,hb1⟩;have fQ:Hid (Below w.heap.size w w1):=(HB.I.alloc HB.I.size _).trans (hb1.mono (by have:=HB.I.size; simp; omega));have HO:Hid (mQ (K k) (N k) (M k) (S k)=j8 K N M S k):=rfl;rw [HO.I];clear hb1 c0 c1 c2 c3;cases hop:j8 K N M S k with
   | true=>
    have HP:Hid (j8 K N M S k=true):=hop;clear hop;go_wp2;go_roundw
    case rel=>exact ⟨k+1,by omega,by go_num,fun j hj=>by
     by_cases e:j=k
     ·subst e; exact HP.I
     ·exact HA.I j (by omega),fQ.I⟩
    case measure=>simp [intOf]; omega
   | false=>
    have HP:Hid (j8 K N M S k=false):=hop;clear hop;go_wp2;go_ret;exact ⟨al (iS (fun h=>by have:=h.2.2 k hlt; rw [HP.I] at this; cases this)).symm,fQ.I⟩
  ·have e:k=len:=by omega
   subst e;go_wp2;go_ret;exact ⟨al (vM ⟨by omega,by omega,HA.I⟩).symm,HB.I⟩
end Go.Proofs.YtkbcplnlehdjfaaGreat

namespace Go.Proofs.YtkbcplnlehdjfaaGreat
open Go.RowKit
def gO:List dN→List Value
 | [] => []
 | o :: os=> .int .i64 o.1 :: .int .i64 o.2.1 :: .int .i64 o.2.2.1 :: .string o.2.2.2 :: gO os
theorem pK: ∀ (os os':List dN),gO (os ++ os')=gO os ++ gO os'
 | [],_=>rfl
 | o :: os,os'=>by simp [gO,pK os os']
theorem xU: ∀ (os:List dN) (j:Nat),j < os.length * 4→(gO os)[j]? =some (xe (Cd os) (Cg os) (Ea os) (Ce os) j)
 | [],j,h=>by simp at h
 | o :: os,j,h=>by
  have hk: ∀ i,Cd (o :: os) (i+1)=Cd os i∧Cg (o :: os) (i+1)=Cg os i∧Ea (o :: os) (i+1)=Ea os i∧Ce (o :: os) (i+1)=Ce os i:=fun i=>by simp [Cd,Cg,Ea,Ce]
  match j,h with
  | 0,_=>simp [gO,xe,Cd]
  | 1,_=>simp [gO,xe,Cg]
  | 2,_=>simp [gO,xe,Ea]
  | 3,_=>simp [gO,xe,Ce]
  | j+4,h=>
   have ih:=xU os j (by simp at h; omega);have e1:(j+4) / 4=j / 4+1:=by omega
   have e2:(j+4) % 4=j % 4:=by omega
   obtain ⟨h1,h2,h3,h4⟩:=hk (j / 4);simp only [gO,List.getElem?_cons_succ];rw [ih];simp only [xe,e1,e2,h1,h2,h3,h4]
theorem Fa {w:World} {base n:Nat} {v:Value} {os:List dN} (h:w.ownsRow base 134 4 v n (gO os)) (hn:n=os.length):(v= .slice none 0 0∧os.length=0)∨ ∃ g c,v= .slice (some ⟨g,0,none⟩) os.length c∧base≤g∧y9 w g os∧ ∃ cur:Array Value,w.heap[g]? =some (.cells cur 134 (0,0))∧os.length * 4≤cur.size∧ ∀ j,j < os.length * 4→cur[j]? =some (xe (Cd os) (Cg os) (Ea os) (Ce os) j):=by
 subst hn;rcases h.2 with ⟨h1,h2⟩ | ⟨g,cap,cur,h1,h2,h3,h4,h5,h6,h7⟩
 ·exact .inl ⟨h1,h2⟩
 ·have key: ∀ j,j < os.length * 4→cur[j]? =some (xe (Cd os) (Cg os) (Ea os) (Ce os) j):=fun j hj=>by
   rw [← xU os j hj,← h7,List.getElem?_take_of_lt (by omega)];simp
  refine .inr ⟨g,cap,h1,h2,⟨(J2.1 h3).1,fun j hj=> ?_⟩,cur,h3,by omega,key⟩;rw [K5 _ _ _ _ _ _ h3];exact key j hj
theorem xh {w:World} {base n:Nat} {v:Value} {xs:List Value} (h:w.ownsRow base 134 4 v (n+1) xs): ∃ g c,v= .slice (some ⟨g,0,none⟩) (n+1) c:=by
 rcases h.2 with ⟨_,h2⟩ | ⟨g,cap,cur,h1,_⟩
 ·omega
 ·exact ⟨g,cap,h1⟩
theorem Ii:(Tryz.prog.info? 134).map (fun i=>(i.zero,i.size,i.bytes))=some (some (.agg #[.int .i64 0,.int .i64 0,.int .i64 0,.string ⟨#[]⟩]),4,40):=by kernel_rfl
theorem nt (os:List dN) (o:dN):(os ++ [o]).length=os.length+1:=by simp
structure mM (r:Nat) (a:Option Addr) (len cap:Nat) (w x:World) (g c:Nat) (os:List dN):Prop where
 own:x.ownsRow w.heap.size 134 4 (.slice (some ⟨g,0,none⟩) os.length c) os.length (gO os)
 but:gG r w x
 rd:Rd r a len cap x
 st:Rd r a len cap w
 sz: ∀ o∈os,o.2.2.2.size≤3
theorem mM.form {r:Nat} {a:Option Addr} {len cap:Nat} {w x:World} {g c:Nat} {os:List dN} (h:mM r a len cap w x g c os):w.heap.size≤g∧y9 x g os:=by
 rcases Fa h.own rfl with ⟨h1,_⟩ | ⟨g',c',h1,h2,h3,_⟩
 ·cases h1
 ·cases h1
  exact ⟨h2,h3⟩
theorem mM.move {r:Nat} {a:Option Addr} {len cap:Nat} {w x y:World} {g c:Nat} {os:List dN} (h:mM r a len cap w x g c os) (hb:gG r x y) (hr:Rd r a len cap y):mM r a len cap w y g c os:=
 ⟨AJ h.own hb h.st.lt,h.but.trans hb,hr,h.st,h.sz⟩
theorem mM.alloc {r:Nat} {a:Option Addr} {len cap:Nat} {w x:World} {g c:Nat} {os:List dN} (h:mM r a len cap w x g c os) (o:Obj):mM r a len cap w (x.alloc o) g c os:=
 h.move ((gG.refl _ _).alloc _) (h.rd.below ((Kp _ _).alloc (Ki _) _))
theorem mM.next {r:Nat} {a:Option Addr} {len cap:Nat} {w x w5:World} {g c g' c':Nat} {os:List dN} {o:dN} (h:mM r a len cap w x g c os) (hz:o.2.2.2.size≤3) (hg:x.grownBy w5 (some g))
  (hown:w5.ownsRow w.heap.size 134 4 (.slice (some ⟨g',0,none⟩) (os.length+1) c') (os.length+1) (gO os ++ [.int .i64 o.1,.int .i64 o.2.1,.int .i64 o.2.2.1,.string o.2.2.2])):mM r a len cap w w5 g' c' (os ++ [o]):=by
 have hf:=h.form.1;have hb:gG r w w5:=h.but.grown hg (fun k hk=>by cases hk; exact hf);obtain ⟨p,hp,hrow⟩:=h.rd.1;have hrl:=h.st.lt;have hrow5:w5.heap[r]? =some (.cells #[.slice a len cap,.int .i64 p] 188 (0,0)):=(hg.block r (J2.1 hrow).1 (fun e=>by cases e; omega)).trans hrow;refine ⟨?_,hb,⟨⟨p,hp,hrow5⟩,h.st.2.but hb⟩,h.st,fun q hq=> ?_⟩
 ·rw [pK,nt]
  simpa [gO] using hown
 ·rcases Kg.1 hq with hq | hq
  ·exact h.sz q hq
  ·rw [KB] at hq; subst hq; exact hz
theorem uz (r:Nat) (a:Option Addr) (len cap:Nat) (w:World) (hl:len≤1048576) (h:Rd r a len cap w):
  Calls J3 83 #[.pointer (some ⟨r,0,none⟩)] w fun e w'=> ∃ (g c:Nat) (os:List dN),e= .returned (.slice (some ⟨g,0,none⟩) os.length c)∧os.length≤6∧mM r a len cap w w' g c os:=by
 obtain ⟨i0,hi,e0⟩:=Option.map_eq_some_iff.1 Ii;simp only [Prod.mk.injEq] at e0;have HI:Hid (Tryz.prog.info? 134=some i0∧i0.zero=some (.agg #[.int .i64 0,.int .i64 0,.int .i64 0,.string ⟨#[]⟩])∧i0.size=4∧i0.bytes=40):=⟨hi,e0⟩
 clear hi e0;have HA:Hid (mM r a len cap w (w.alloc (.cells #[] 134)) w.heap.size 0 []):=
  ⟨⟨rfl,.inr ⟨w.heap.size,0,#[],rfl,Ki _,Kj _ _,Ki _,Ky _,rfl,rfl⟩⟩,(gG.refl _ _).alloc _,h.below ((Kp _ _).alloc (Ki _) _),h,fun o ho=>by simp at ho⟩
 clear h
 go_enter Tryz.func83,Tryz.ntmps83
 go_wp2_with fail;generalize w.alloc (.cells #[] 134)=W0 at *;generalize hgs:w.heap.size=g0 at *;refine (dh r a len cap 5 _ hl (by omega) (by omega) HA.I.rd).mono ?_;rintro e w1 ⟨v,v0,v1,rfl,hb1,hr1⟩;have H1:Hid (mM r a len cap w w1 g0 0 []):=HA.I.move hb1 hr1;have e1:IntKind.i64.wrap (1+v)=1+v:=by rw [K8]; omega
 clear hb1 hr1 HA;go_wp2_with fail
 go_loopw [3,4] (fun v i wr=> ∃ (g c:Nat) (os:List dN) (m:Int),v= .slice (some ⟨g,0,none⟩) os.length c∧i= .int .i64 m∧0≤m∧(os.length:Int)+m≤5∧Hid (mM r a len cap w wr g c os)) (fun _ i _=>(intOf i).toNat)
 case atStart=>exact ⟨g0,0,[],1+v,rfl,rfl,by omega,by simp; omega,H1⟩
 case round=>
  clear H1;obtain ⟨g,c,os,m,rfl,rfl,hm0,hm5,H⟩:=hrel;by_cases hm:0 < m
  ·go_wp2_with fail
   refine (op_any r a len cap _ hl H.I.rd).mono ?_;rintro e w4 ⟨o,hoz,rfl,hb4,hr4⟩;have H4:Hid (mM r a len cap w w4 g c os):=H.I.move hb4 hr4;have HX:Hid (mM r a len cap w (w4.alloc (.cells #[.int .i64 o.1,.int .i64 o.2.1,.int .i64 o.2.2.1,.string o.2.2.2] 134)) g c os):=H4.I.alloc _;have e2:IntKind.i64.wrap (m - 1)=m - 1:=by rw [K8]; omega
   have hw4:=H4.I.but.size;clear hb4 hr4 H;go_wp2_with (at_builtin; refine KD _ rfl _ _ 37 rfl w.heap.size 134 i0 (.agg #[.int .i64 0,.int .i64 0,.int .i64 0,.string ⟨#[]⟩]) 4 40 QD HI.I.1 HI.I.2.1 HI.I.2.2.1 HI.I.2.2.2 rfl (by decide) (.slice (some ⟨g,0,none⟩) os.length c) os.length (gO os) rfl HX.I.own ⟨w4.heap.size,0,none⟩ 1 1 [.int .i64 o.1,.int .i64 o.2.1,.int .i64 o.2.2.1,.string o.2.2.2] (by rfl) rfl (KE (cs:= #[.int .i64 o.1,.int .i64 o.2.1,.int .i64 o.2.2.1,.string o.2.2.2]) (t:=134) (fr:=(0,0)) (Kj w4 _)) (by simp [Value.oneCell']) (by unfold maxLen; omega) (by omega) (by simp; omega) ?_; intro v' w5 hown' hgrow hnil jV; obtain ⟨gg,cp,rfl⟩:=xh hown'; have HN:Hid (mM r a len cap w w5 gg cp (os ++ [o])):=HX.I.next hoz hgrow hown'; clear hown' hgrow hnil jV HX);go_roundw
   case rel=>exact ⟨gg,cp,os ++ [o],m - 1,by rw [nt],rfl,by omega,by rw [nt]; omega,HN⟩
   case measure=>simp [intOf]; omega
  ·go_wp2_with fail
   refine (jt r a len cap 3 _ hl (by omega) (by omega) H.I.rd).mono ?_;rintro e w3 ⟨bb,rfl,hb3,hr3⟩;have H3:Hid (mM r a len cap w w3 g c os):=H.I.move hb3 hr3;clear hb3 hr3 H;cases bb with
   | false=>
    go_wp2;go_ret;exact ⟨g,c,os,rfl,by omega,H3.I⟩
   | true=>
    have HX:Hid (mM r a len cap w (w3.alloc (.cells #[.int .i64 17,.int .i64 0,.int .i64 0,.string ⟨#[]⟩] 134)) g c os):=H3.I.alloc _;have hw4:=H3.I.but.size;go_wp2_with (at_builtin; refine KD _ rfl _ _ 37 rfl w.heap.size 134 i0 (.agg #[.int .i64 0,.int .i64 0,.int .i64 0,.string ⟨#[]⟩]) 4 40 QD HI.I.1 HI.I.2.1 HI.I.2.2.1 HI.I.2.2.2 rfl (by decide) (.slice (some ⟨g,0,none⟩) os.length c) os.length (gO os) rfl HX.I.own ⟨w3.heap.size,0,none⟩ 1 1 [.int .i64 17,.int .i64 0,.int .i64 0,.string ⟨#[]⟩] (by rfl) rfl (KE (cs:= #[.int .i64 17,.int .i64 0,.int .i64 0,.string ⟨#[]⟩]) (t:=134) (fr:=(0,0)) (Kj w3 _)) (by simp [Value.oneCell']) (by unfold maxLen; omega) (by omega) (by simp; omega) ?_; intro v' w5 hown' hgrow hnil jV; obtain ⟨gg,cp,rfl⟩:=xh hown'; have HN:Hid (mM r a len cap w w5 gg cp (os ++ [(17,0,0,⟨#[]⟩)])):=HX.I.next (Ky 3) hgrow hown'; clear hown' hgrow hnil jV HX);go_ret;exact ⟨gg,cp,os ++ [(17,0,0,⟨#[]⟩)],by rw [nt]; rfl,by rw [nt]; omega,HN.I⟩
end Go.Proofs.YtkbcplnlehdjfaaGreat

namespace Go.Proofs.YtkbcplnlehdjfaaGreat
open Go.RowKit
theorem nh {l:List Int} {k:Nat} {id x:Int} (h:id∉l.take k) (hx:l[k]? =some x) (hne: ¬ x=id):id∉l.take (k+1):=by
 have hk:k < l.length:=(Lj.1 hx).1;rw [QE hk,Kg,KB];rw [Kz hk] at hx;cases hx;rintro (h1 | h1)
 ·exact h h1
 ·exact hne h1.symm
theorem jg {l:List Int} {k:Nat} {id:Int} (h:id∉l.take k) (hk:l.length≤k):place l id 0= -1:=by
 rw [KF hk] at h;exact nN.2 h
theorem lS (p:af) (id:Int) (w:World) (hl:p.L8.length≤1048576) (h:af.At w p):
  Calls J3 97 #[.agg p.cells,.int .i64 id] w fun e w'=>e= .returned (.int .i64 (place (p.L8.map (·.id)) id 0))∧Below w.heap.size w w':=by
 have H:Hid (bg.bU (w.alloc (.cells p.cells 32)) p.aN p.L8∧Below w.heap.size w (w.alloc (.cells p.cells 32))):=⟨h.1.below ((Kp _ _).alloc (Ki _) _),(Kp _ _).alloc (Ki _) _⟩
 have q:(w.alloc (.cells p.cells 32)).cell? ⟨w.heap.size,2,none⟩=some (.slice p.aN p.L8.length p.aW):=by rw [K5 _ _ _ _ _ _ (Kj _ _)]; rfl
 clear h;unfold af.cells at *
 go_enter Tryz.func97,Tryz.ntmps97
 go_wp2_with fail;generalize w.alloc (.cells p.row 32)=W at *
 go_loop [5] (fun i=> ∃ k:Nat,k≤p.L8.length∧i= .int .i64 k∧Hid (id∉(p.L8.map (·.id)).take k)) (fun i=>p.L8.length - (intOf i).toNat)
 case atStart=>exact ⟨0,Ky _,rfl,(by simp:id∉(p.L8.map (·.id)).take 0)⟩
 case round=>
  obtain ⟨k,hk,rfl,HA⟩:=hrel;by_cases hlt:k < p.L8.length
  ·have i0:(0:Int)≤(k:Int):=by omega
   have i1:(k:Int) < (p.L8.length:Int):=by omega
   obtain ⟨x,hx⟩: ∃ x,p.L8[k]? =some x:=⟨_,Kz hlt⟩
   have HX:Hid ((p.L8.map (·.id))[k]? =some x.id):=by show _=_; rw [Kk,hx]; rfl
   obtain ⟨g,ha,hat⟩:=cn H.I.1 hx;have c0:=hat.1;rw [ha] at q;clear hat hx;by_cases hc:x.id=id
   ·have HC:Hid (x.id=id):=hc
    have h1:(x.id == id)=true:=by simp [hc]
    clear hc;go_wp2;go_ret;exact ⟨ck (ku HA.I HX.I HC.I).symm,H.I.2⟩
   ·have HC:Hid (¬ x.id=id):=hc
    have h1:(x.id == id)=false:=by simp [hc]
    clear hc;go_wp2
    go_round
    case rel=>exact ⟨k+1,by omega,by go_num,nh HA.I HX.I HC.I⟩
    case measure=>simp [intOf]; omega
  ·have i1: ¬ (k:Int) < (p.L8.length:Int):=by omega
   go_wp2;go_ret;exact ⟨ck (jg HA.I (by rw [KG]; omega)).symm,H.I.2⟩
theorem lw (p:af) (id:Int) (w:World) (hl:p.aj.length≤1048576) (h:af.At w p):
  Calls J3 214 #[.agg p.cells,.int .i64 id] w fun e w'=>e= .returned (.int .i64 (place (p.aj.map (·.id)) id 0))∧Below w.heap.size w w':=by
 have H:Hid (dm.bU (w.alloc (.cells p.cells 32)) p.bc p.aj∧Below w.heap.size w (w.alloc (.cells p.cells 32))):=⟨h.2.1.below ((Kp _ _).alloc (Ki _) _),(Kp _ _).alloc (Ki _) _⟩
 have q:(w.alloc (.cells p.cells 32)).cell? ⟨w.heap.size,3,none⟩=some (.slice p.bc p.aj.length p.bF):=by rw [K5 _ _ _ _ _ _ (Kj _ _)]; rfl
 clear h;unfold af.cells at *
 go_enter Tryz.func214,Tryz.ntmps214
 go_wp2_with fail;generalize w.alloc (.cells p.row 32)=W at *
 go_loop [5] (fun i=> ∃ k:Nat,k≤p.aj.length∧i= .int .i64 k∧Hid (id∉(p.aj.map (·.id)).take k)) (fun i=>p.aj.length - (intOf i).toNat)
 case atStart=>exact ⟨0,Ky _,rfl,(by simp:id∉(p.aj.map (·.id)).take 0)⟩
 case round=>
  obtain ⟨k,hk,rfl,HA⟩:=hrel;by_cases hlt:k < p.aj.length
  ·have i0:(0:Int)≤(k:Int):=by omega
   have i1:(k:Int) < (p.aj.length:Int):=by omega
   obtain ⟨x,hx⟩: ∃ x,p.aj[k]? =some x:=⟨_,Kz hlt⟩
   have HX:Hid ((p.aj.map (·.id))[k]? =some x.id):=by show _=_; rw [Kk,hx]; rfl
   obtain ⟨g,ha,hat⟩:=lQ H.I.1 hx;have c0:=hat.1;rw [ha] at q;clear hat hx;by_cases hc:x.id=id
   ·have HC:Hid (x.id=id):=hc
    have h1:(x.id == id)=true:=by simp [hc]
    clear hc;go_wp2;go_ret;exact ⟨ck (ku HA.I HX.I HC.I).symm,H.I.2⟩
   ·have HC:Hid (¬ x.id=id):=hc
    have h1:(x.id == id)=false:=by simp [hc]
    clear hc;go_wp2
    go_round
    case rel=>exact ⟨k+1,by omega,by go_num,nh HA.I HX.I HC.I⟩
    case measure=>simp [intOf]; omega
  ·have i1: ¬ (k:Int) < (p.aj.length:Int):=by omega
   go_wp2;go_ret;exact ⟨ck (jg HA.I (by rw [KG]; omega)).symm,H.I.2⟩
theorem ml (p:af) (id:Int) (w:World) (hl:p.L9.length≤1048576) (h:af.At w p):
  Calls J3 215 #[.agg p.cells,.int .i64 id] w fun e w'=>e= .returned (.int .i64 (place (p.L9.map (·.id)) id 0))∧Below w.heap.size w w':=by
 have H:Hid (bJ.bU (w.alloc (.cells p.cells 32)) p.ay p.L9∧Below w.heap.size w (w.alloc (.cells p.cells 32))):=⟨h.2.2.1.below ((Kp _ _).alloc (Ki _) _),(Kp _ _).alloc (Ki _) _⟩
 have q:(w.alloc (.cells p.cells 32)).cell? ⟨w.heap.size,4,none⟩=some (.slice p.ay p.L9.length p.aO):=by rw [K5 _ _ _ _ _ _ (Kj _ _)]; rfl
 clear h;unfold af.cells at *
 go_enter Tryz.func215,Tryz.ntmps215
 go_wp2_with fail;generalize w.alloc (.cells p.row 32)=W at *
 go_loop [5] (fun i=> ∃ k:Nat,k≤p.L9.length∧i= .int .i64 k∧Hid (id∉(p.L9.map (·.id)).take k)) (fun i=>p.L9.length - (intOf i).toNat)
 case atStart=>exact ⟨0,Ky _,rfl,(by simp:id∉(p.L9.map (·.id)).take 0)⟩
 case round=>
  obtain ⟨k,hk,rfl,HA⟩:=hrel;by_cases hlt:k < p.L9.length
  ·have i0:(0:Int)≤(k:Int):=by omega
   have i1:(k:Int) < (p.L9.length:Int):=by omega
   obtain ⟨x,hx⟩: ∃ x,p.L9[k]? =some x:=⟨_,Kz hlt⟩
   have HX:Hid ((p.L9.map (·.id))[k]? =some x.id):=by show _=_; rw [Kk,hx]; rfl
   obtain ⟨g,ha,hat⟩:=j4 H.I.1 hx;have c0:=hat.1;rw [ha] at q;clear hat hx;by_cases hc:x.id=id
   ·have HC:Hid (x.id=id):=hc
    have h1:(x.id == id)=true:=by simp [hc]
    clear hc;go_wp2;go_ret;exact ⟨ck (ku HA.I HX.I HC.I).symm,H.I.2⟩
   ·have HC:Hid (¬ x.id=id):=hc
    have h1:(x.id == id)=false:=by simp [hc]
    clear hc;go_wp2
    go_round
    case rel=>exact ⟨k+1,by omega,by go_num,nh HA.I HX.I HC.I⟩
    case measure=>simp [intOf]; omega
  ·have i1: ¬ (k:Int) < (p.L9.length:Int):=by omega
   go_wp2;go_ret;exact ⟨ck (jg HA.I (by rw [KG]; omega)).symm,H.I.2⟩
theorem mg (p:af) (id:Int) (w:World) (hl:p.ag.length≤1048576) (h:af.At w p):
  Calls J3 217 #[.agg p.cells,.int .i64 id] w fun e w'=>e= .returned (.int .i64 (place (p.ag.map (·.id)) id 0))∧Below w.heap.size w w':=by
 have H:Hid (bG.bU (w.alloc (.cells p.cells 32)) p.ax p.ag∧Below w.heap.size w (w.alloc (.cells p.cells 32))):=⟨h.2.2.2.1.below ((Kp _ _).alloc (Ki _) _),(Kp _ _).alloc (Ki _) _⟩
 have q:(w.alloc (.cells p.cells 32)).cell? ⟨w.heap.size,5,none⟩=some (.slice p.ax p.ag.length p.aP):=by rw [K5 _ _ _ _ _ _ (Kj _ _)]; rfl
 clear h;unfold af.cells at *
 go_enter Tryz.func217,Tryz.ntmps217
 go_wp2_with fail;generalize w.alloc (.cells p.row 32)=W at *
 go_loop [5] (fun i=> ∃ k:Nat,k≤p.ag.length∧i= .int .i64 k∧Hid (id∉(p.ag.map (·.id)).take k)) (fun i=>p.ag.length - (intOf i).toNat)
 case atStart=>exact ⟨0,Ky _,rfl,(by simp:id∉(p.ag.map (·.id)).take 0)⟩
 case round=>
  obtain ⟨k,hk,rfl,HA⟩:=hrel;by_cases hlt:k < p.ag.length
  ·have i0:(0:Int)≤(k:Int):=by omega
   have i1:(k:Int) < (p.ag.length:Int):=by omega
   obtain ⟨x,hx⟩: ∃ x,p.ag[k]? =some x:=⟨_,Kz hlt⟩
   have HX:Hid ((p.ag.map (·.id))[k]? =some x.id):=by show _=_; rw [Kk,hx]; rfl
   obtain ⟨g,ha,hat⟩:=jr H.I.1 hx;have c0:=hat.1;rw [ha] at q;clear hat hx;by_cases hc:x.id=id
   ·have HC:Hid (x.id=id):=hc
    have h1:(x.id == id)=true:=by simp [hc]
    clear hc;go_wp2;go_ret;exact ⟨ck (ku HA.I HX.I HC.I).symm,H.I.2⟩
   ·have HC:Hid (¬ x.id=id):=hc
    have h1:(x.id == id)=false:=by simp [hc]
    clear hc;go_wp2
    go_round
    case rel=>exact ⟨k+1,by omega,by go_num,nh HA.I HX.I HC.I⟩
    case measure=>simp [intOf]; omega
  ·have i1: ¬ (k:Int) < (p.ag.length:Int):=by omega
   go_wp2;go_ret;exact ⟨ck (jg HA.I (by rw [KG]; omega)).symm,H.I.2⟩
theorem lr (p:af) (id:Int) (w:World) (hl:p.ae.length≤1048576) (h:af.At w p):
  Calls J3 216 #[.agg p.cells,.int .i64 id] w fun e w'=>e= .returned (.int .i64 (place (p.ae.map (·.id)) id 0))∧Below w.heap.size w w':=by
 have H:Hid (bm.bU (w.alloc (.cells p.cells 32)) p.am p.ae∧Below w.heap.size w (w.alloc (.cells p.cells 32))):=⟨h.2.2.2.2.1.below ((Kp _ _).alloc (Ki _) _),(Kp _ _).alloc (Ki _) _⟩
 have q:(w.alloc (.cells p.cells 32)).cell? ⟨w.heap.size,6,none⟩=some (.slice p.am p.ae.length p.aG):=by rw [K5 _ _ _ _ _ _ (Kj _ _)]; rfl
 clear h;unfold af.cells at *
 go_enter Tryz.func216,Tryz.ntmps216
 go_wp2_with fail;generalize w.alloc (.cells p.row 32)=W at *
 go_loop [5] (fun i=> ∃ k:Nat,k≤p.ae.length∧i= .int .i64 k∧Hid (id∉(p.ae.map (·.id)).take k)) (fun i=>p.ae.length - (intOf i).toNat)
 case atStart=>exact ⟨0,Ky _,rfl,(by simp:id∉(p.ae.map (·.id)).take 0)⟩
 case round=>
  obtain ⟨k,hk,rfl,HA⟩:=hrel;by_cases hlt:k < p.ae.length
  ·have i0:(0:Int)≤(k:Int):=by omega
   have i1:(k:Int) < (p.ae.length:Int):=by omega
   obtain ⟨x,hx⟩: ∃ x,p.ae[k]? =some x:=⟨_,Kz hlt⟩
   have HX:Hid ((p.ae.map (·.id))[k]? =some x.id):=by show _=_; rw [Kk,hx]; rfl
   obtain ⟨g,ha,hat⟩:=iA H.I.1 hx;have c0:=hat.1;rw [ha] at q;clear hat hx;by_cases hc:x.id=id
   ·have HC:Hid (x.id=id):=hc
    have h1:(x.id == id)=true:=by simp [hc]
    clear hc;go_wp2;go_ret;exact ⟨ck (ku HA.I HX.I HC.I).symm,H.I.2⟩
   ·have HC:Hid (¬ x.id=id):=hc
    have h1:(x.id == id)=false:=by simp [hc]
    clear hc;go_wp2
    go_round
    case rel=>exact ⟨k+1,by omega,by go_num,nh HA.I HX.I HC.I⟩
    case measure=>simp [intOf]; omega
  ·have i1: ¬ (k:Int) < (p.ae.length:Int):=by omega
   go_wp2;go_ret;exact ⟨ck (jg HA.I (by rw [KG]; omega)).symm,H.I.2⟩
theorem uV (p:af) (id:Int) (w:World) (hl:p.ai.length≤1048576) (h:af.At w p):
  Calls J3 248 #[.agg p.cells,.int .i64 id] w fun e w'=>e= .returned (.int .i64 (place (p.ai.map (·.id)) id 0))∧Below w.heap.size w w':=by
 have H:Hid (bX.bU (w.alloc (.cells p.cells 32)) p.aK p.ai∧Below w.heap.size w (w.alloc (.cells p.cells 32))):=⟨h.2.2.2.2.2.below ((Kp _ _).alloc (Ki _) _),(Kp _ _).alloc (Ki _) _⟩
 have q:(w.alloc (.cells p.cells 32)).cell? ⟨w.heap.size,7,none⟩=some (.slice p.aK p.ai.length p.aV):=by rw [K5 _ _ _ _ _ _ (Kj _ _)]; rfl
 clear h;unfold af.cells at *
 go_enter Tryz.func248,Tryz.ntmps248
 go_wp2_with fail;generalize w.alloc (.cells p.row 32)=W at *
 go_loop [5] (fun i=> ∃ k:Nat,k≤p.ai.length∧i= .int .i64 k∧Hid (id∉(p.ai.map (·.id)).take k)) (fun i=>p.ai.length - (intOf i).toNat)
 case atStart=>exact ⟨0,Ky _,rfl,(by simp:id∉(p.ai.map (·.id)).take 0)⟩
 case round=>
  obtain ⟨k,hk,rfl,HA⟩:=hrel;by_cases hlt:k < p.ai.length
  ·have i0:(0:Int)≤(k:Int):=by omega
   have i1:(k:Int) < (p.ai.length:Int):=by omega
   obtain ⟨x,hx⟩: ∃ x,p.ai[k]? =some x:=⟨_,Kz hlt⟩
   have HX:Hid ((p.ai.map (·.id))[k]? =some x.id):=by show _=_; rw [Kk,hx]; rfl
   obtain ⟨g,ha,hat⟩:=lm H.I.1 hx;have c0:=hat.1;rw [ha] at q;clear hat hx;by_cases hc:x.id=id
   ·have HC:Hid (x.id=id):=hc
    have h1:(x.id == id)=true:=by simp [hc]
    clear hc;go_wp2;go_ret;exact ⟨ck (ku HA.I HX.I HC.I).symm,H.I.2⟩
   ·have HC:Hid (¬ x.id=id):=hc
    have h1:(x.id == id)=false:=by simp [hc]
    clear hc;go_wp2
    go_round
    case rel=>exact ⟨k+1,by omega,by go_num,nh HA.I HX.I HC.I⟩
    case measure=>simp [intOf]; omega
  ·have i1: ¬ (k:Int) < (p.ai.length:Int):=by omega
   go_wp2;go_ret;exact ⟨ck (jg HA.I (by rw [KG]; omega)).symm,H.I.2⟩
def dJ (l:List ByteArray) (Me:Int):Bool:=l.all bw && decide ((l.length:Int)≤Me)
theorem xL {l:List ByteArray} {Me:Int} {k:Nat} {x:ByteArray} (hx:l[k]? =some x) (h:bw x=false):dJ l Me=false:=by
 have:l.all bw=false:=by
  rw [List.all_eq_false];exact ⟨x,KA hx,by simp [h]⟩
 simp [dJ,this]
theorem pQ {l:List ByteArray} {k:Nat} {x:ByteArray} (h:(l.take k).all bw=true) (hx:l[k]? =some x) (hp:bw x=true):(l.take (k+1)).all bw=true:=by
 have hk:k < l.length:=(Lj.1 hx).1;rw [QE hk,List.all_append,h];rw [Kz hk] at hx;cases hx;simp [hp]
theorem zl {w:World} {a:Option Addr} {l:List ByteArray} (h:Row w a (bT.flat l)) {k:Nat} {x:ByteArray} (hx:l[k]? =some x): ∃ g,a=some ⟨g,0,none⟩∧w.cell? ⟨g,k,none⟩=some (.string x):=by
 have h1:(bT.flat l)[k]? =some (.string x):=by
  have:=bT.jw hx (j:=0) (by decide)
  simpa [bT] using this
 exact h k _ h1
theorem Aj (a:Option Addr) (l:List ByteArray) (cap:Nat) (Me:Int) (w:World) (hl:l.length≤1048576) (hs: ∀ x∈l,x.size≤1048576) (h:Row w a (bT.flat l)):
  Calls J3 182 #[.slice a l.length cap,.int .i64 Me] w fun e w'=>e= .returned (.bool (dJ l Me))∧w'=w:=by
 have H:Hid (Row w a (bT.flat l)∧ ∀ x∈l,x.size≤1048576):=⟨h,hs⟩
 clear h hs
 go_enter Tryz.func182,Tryz.ntmps182
 go_wp2_with fail
 go_loop [5] (fun i=> ∃ k:Nat,k≤l.length∧i= .int .i64 k∧Hid ((l.take k).all bw=true)) (fun i=>l.length - (intOf i).toNat)
 case atStart=>exact ⟨0,Ky _,rfl,(by simp:(l.take 0).all bw=true)⟩
 case round=>
  obtain ⟨k,hk,rfl,HA⟩:=hrel;by_cases hlt:k < l.length
  ·have i0:(0:Int)≤(k:Int):=by omega
   have i1:(k:Int) < (l.length:Int):=by omega
   obtain ⟨x,hx⟩: ∃ x,l[k]? =some x:=⟨_,Kz hlt⟩
   have HX:Hid (l[k]? =some x):=hx;obtain ⟨g,rfl,c0⟩:=zl H.I.1 hx;have hxs:=H.I.2 x (KA hx);clear hx;go_wp2_with fail;refine (jC x w hxs).mono ?_;rintro e w' ⟨rfl,rfl⟩;cases hp:bw x with
   | true=>
    have HP:Hid (bw x=true):=hp;clear hp;go_wp2
    go_round
    case rel=>exact ⟨k+1,by omega,by go_num,pQ HA.I HX.I HP.I⟩
    case measure=>simp [intOf]; omega
   | false=>
    have HP:Hid (bw x=false):=hp;clear hp;go_wp2;go_ret;exact ⟨al (xL HX.I HP.I).symm,rfl⟩
  ·have i1: ¬ (k:Int) < (l.length:Int):=by omega
   have HT:Hid (l.all bw=true):=by have:=HA.I; rwa [KF (by omega)] at this
   have e1:wrap64 (l.length:Int)=l.length:=by unfold wrap64; omega
   go_wp2;go_ret;exact ⟨al (by rw [dJ,HT.I]; simp),rfl⟩
def hasB (p:aE) (Md id:Int):Bool:=
 if Md=3 then decide (id∈p.aj.map (·.id)) else if Md=4 then decide (id∈p.L9.map (·.id))
 else if Md=5∨Md=6 then decide (id∈p.ae.map (·.id)) else if Md=7 then decide (id∈p.ag.map (·.id)) else false
theorem mV (l:List Int) (id:Int):decide (0≤place l id 0)=decide (id∈l):=by
 by_cases h:id∈l
 ·rw [decide_eq_true h]
  rcases z8 l id 0 with h1 | h1
  ·exact absurd h (nN.1 h1)
  ·exact decide_eq_true (by simpa using h1)
 ·rw [decide_eq_false h,nN.2 h]
  rfl
structure af.dX (p:af):Prop where
 L8:p.L8.length≤1048576
 aj:p.aj.length≤1048576
 L9:p.L9.length≤1048576
 ag:p.ag.length≤1048576
 ae:p.ae.length≤1048576
 ai:p.ai.length≤1048576
theorem xT (p:af) (Md id:Int) (w:World) (hl:p.dX) (h:af.At w p):
  Calls J3 184 #[.agg p.cells,.int .i64 Md,.int .i64 id] w fun e w'=>e= .returned (.bool (hasB p.pure Md id))∧Below w.heap.size w w':=by
 have hp:p.cells=p.row:=rfl;have H:Hid ((af.At (w.alloc (.cells p.cells 32)) p∧Below w.heap.size w (w.alloc (.cells p.cells 32)))∧p.dX):=⟨⟨h.below ((Kp _ _).alloc (Ki _) _),(Kp _ _).alloc (Ki _) _⟩,hl⟩
 rw [hp] at H;rw [hp];clear h hl hp;by_cases s3:Md=3
 ·subst s3
  go_enter QF,QG
  go_wp2_with fail;refine (lw p id _ H.I.2.aj H.I.1.1).mono ?_;rintro e w1 ⟨rfl,hb1⟩;have HB:Hid (Below w.heap.size w w1):=H.I.1.2.trans (hb1.mono (by simp));have HM:Hid (decide (0≤place (p.aj.map (·.id)) id 0)=decide (id∈p.aj.map (·.id))):=mV _ id;clear hb1;go_wp2;go_ret;exact ⟨al (HM.I.trans (by simp [hasB,af.pure])),HB.I⟩
 by_cases s4:Md=4
 ·subst s4
  go_enter QF,QG
  go_wp2_with fail;refine (ml p id _ H.I.2.L9 H.I.1.1).mono ?_;rintro e w1 ⟨rfl,hb1⟩;have HB:Hid (Below w.heap.size w w1):=H.I.1.2.trans (hb1.mono (by simp));have HM:Hid (decide (0≤place (p.L9.map (·.id)) id 0)=decide (id∈p.L9.map (·.id))):=mV _ id;clear hb1;go_wp2;go_ret;exact ⟨al (HM.I.trans (by simp [hasB,af.pure])),HB.I⟩
 by_cases s5:Md=5
 ·subst s5
  go_enter QF,QG
  go_wp2_with fail;refine (lr p id _ H.I.2.ae H.I.1.1).mono ?_;rintro e w1 ⟨rfl,hb1⟩;have HB:Hid (Below w.heap.size w w1):=H.I.1.2.trans (hb1.mono (by simp));have HM:Hid (decide (0≤place (p.ae.map (·.id)) id 0)=decide (id∈p.ae.map (·.id))):=mV _ id;clear hb1;go_wp2;go_ret;exact ⟨al (HM.I.trans (by simp [hasB,af.pure])),HB.I⟩
 by_cases s6:Md=6
 ·subst s6
  go_enter QF,QG
  go_wp2_with fail;refine (lr p id _ H.I.2.ae H.I.1.1).mono ?_;rintro e w1 ⟨rfl,hb1⟩;have HB:Hid (Below w.heap.size w w1):=H.I.1.2.trans (hb1.mono (by simp));have HM:Hid (decide (0≤place (p.ae.map (·.id)) id 0)=decide (id∈p.ae.map (·.id))):=mV _ id;clear hb1;go_wp2;go_ret;exact ⟨al (HM.I.trans (by simp [hasB,af.pure])),HB.I⟩
 by_cases s7:Md=7
 ·subst s7
  go_enter QF,QG
  go_wp2_with fail;refine (mg p id _ H.I.2.ag H.I.1.1).mono ?_;rintro e w1 ⟨rfl,hb1⟩;have HB:Hid (Below w.heap.size w w1):=H.I.1.2.trans (hb1.mono (by simp));have HM:Hid (decide (0≤place (p.ag.map (·.id)) id 0)=decide (id∈p.ag.map (·.id))):=mV _ id;clear hb1;go_wp2;go_ret;exact ⟨al (HM.I.trans (by simp [hasB,af.pure])),HB.I⟩
 have e3:(Md == 3)=false:=by simp [s3]
 have e4:(Md == 4)=false:=by simp [s4]
 have e5:(Md == 5)=false:=by simp [s5]
 have e6:(Md == 6)=false:=by simp [s6]
 have e7:(Md == 7)=false:=by simp [s7]
 have HN:Hid (hasB p.pure Md id=false):=by show hasB p.pure Md id=false; simp [hasB,s3,s4,s5,s6,s7]
 clear s3 s4 s5 s6 s7
 go_enter QF,QG
 go_wp2;go_ret;exact ⟨al HN.I.symm,H.I.1.2⟩
end Go.Proofs.YtkbcplnlehdjfaaGreat

namespace Go.Proofs.YtkbcplnlehdjfaaGreat
open Go.RowKit
def Nw (K N M:Nat→Int) (S:Nat→ByteArray) (i:Nat):ByteArray:=MF (K i) (N i) (M i) (S i)
def Mz (K N M:Nat→Int) (S:Nat→ByteArray):Nat→ByteArray
 | 0=>⟨#[]⟩
 | k+1=>(if k=0 then Mz K N M S k else Mz K N M S k ++ ⟨#[59]⟩) ++ Nw K N M S k
def M0 (len:Nat) (K N M:Nat→Int) (S:Nat→ByteArray):ByteArray:=if nq len K N M S=true then Mz K N M S len else ⟨#[]⟩
theorem MU {len:Nat} {K N M:Nat→Int} {S:Nat→ByteArray} (h:nq len K N M S=true):1≤len∧len≤20∧ ∀ j,j < len→j8 K N M S j=true:=by
 simp only [nq] at h;exact of_decide_eq_true h
theorem Nr {k n m:Int} {s:ByteArray} (h:mQ k n m s=true):(MF k n m s).size≤51:=by
 have e1:(⟨#[32]⟩:ByteArray).size=1:=rfl;have s0:=MH k;unfold MF
 split
 ·rename_i hk
  have:=ML hk h
  have s1:=MD (n:=n) (by omega) (by omega);simp only [QH]; omega
 split
 ·rename_i hk
  have:=MZ hk h
  have s1:=MD (n:=n) (by omega) (by omega);have s2:=MD (n:=m) (by omega) (by omega);simp only [QH]; omega
 split
 ·rename_i hk
  subst hk
  have:=N0 h
  have s1:=MD (n:=n) (by omega) (by omega);have s2:=MD (n:=m) (by omega) (by omega);simp only [QH]; omega
 split
 ·rename_i hk
  have:=NK hk h
  have s1:=MD (n:=n) (by omega) (by omega);simp only [QH]; omega
 ·omega
theorem NX {K N M:Nat→Int} {S:Nat→ByteArray} : ∀ k,(∀ j,j < k→j8 K N M S j=true)→(Mz K N M S k).size≤52 * k
 | 0,_=>Ki 0
 | k+1,h=>by
  have ih:=NX k (fun j hj=>h j (by omega));have ho:(Nw K N M S k).size≤51:=Nr (h k (by omega));have e1:(⟨#[59]⟩:ByteArray).size=1:=rfl;simp only [Mz]
  split
  ·simp only [QH]; omega
  ·simp only [QH]; omega
theorem No (g len cap:Nat) (K N M:Nat→Int) (S:Nat→ByteArray) (w:World) (hl:len≤1048576) (hs: ∀ i,i < len→(S i).size≤1048576) (hr:iG w g len K N M S):
  Calls J3 172 #[.slice (some ⟨g,0,none⟩) len cap] w fun e w'=>e= .returned (.string (M0 len K N M S))∧Below w.heap.size w w':=by
 have HR:Hid (iG w g len K N M S):=hr;have HS:Hid (∀ i,i < len→(S i).size≤1048576):=hs;clear hr hs
 go_enter Tryz.func172,Tryz.ntmps172
 go_wp2_with fail;refine (vv g len cap K N M S w hl HS.I HR.I).mono ?_;rintro e w1 ⟨rfl,hb1⟩;have pG:Hid (iG w1 g len K N M S∧Below w.heap.size w w1):=⟨HR.I.below hb1,hb1⟩
 clear hb1 HR;cases hf:nq len K N M S with
 | false=>
  have HF:Hid (nq len K N M S=false):=hf;clear hf;go_wp2;go_ret;exact ⟨by rw [M0,HF.I]; rfl,pG.I.2⟩
 | true=>
  have HF:Hid (1≤len∧len≤20∧(∀ j,j < len→j8 K N M S j=true)∧nq len K N M S=true):=⟨(MU hf).1,(MU hf).2.1,(MU hf).2.2,hf⟩
  clear hf;go_wp2_with fail
  go_loopw [3,4] (fun t i wr=> ∃ k:Nat,k≤len∧i= .int .i64 k∧t= .string (Mz K N M S k)∧Hid (Below w.heap.size w wr∧iG wr g len K N M S)) (fun _ i _=>len - (intOf i).toNat)
  case atStart=>exact ⟨0,Ky _,rfl,rfl,⟨pG.I.2,pG.I.1⟩⟩
  case round=>
   obtain ⟨k,hk,rfl,rfl,HW⟩:=hrel;by_cases hlt:k < len
   ·have c0:=HW.I.2.c0 hlt
    have c1:=HW.I.2.c1 hlt;have c2:=HW.I.2.c2 hlt;have c3:=HW.I.2.c3 hlt;have i0:(0:Int)≤(k:Int):=by omega
    have i1:(k:Int) < (len:Int):=by omega
    have hgl:=HW.I.2.1;have HO:Hid (mQ (K k) (N k) (M k) (S k)=true):=HF.I.2.2.1 k hlt;have hts:=NX k (fun j hj=>HF.I.2.2.1 j (by omega));have hos:=Nr HO.I;have HX:Hid (Mz K N M S (k+1)=(if k=0 then Mz K N M S k else Mz K N M S k ++ ⟨#[59]⟩) ++ MF (K k) (N k) (M k) (S k)):=rfl;have hlen:=HF.I.2.1;have q0: ¬ 9223372036854775807 < (Mz K N M S k).size+1:=by omega
    have q1: ¬ 9223372036854775807 < (Mz K N M S k).size+1+(MF (K k) (N k) (M k) (S k)).size:=by omega
    have q2: ¬ 9223372036854775807 < (Mz K N M S k).size+(MF (K k) (N k) (M k) (S k)).size:=by omega
    clear hts hos;generalize Mz K N M S k=t at *;by_cases hk0:k=0
    ·have hk1: ¬ (0:Int) < (k:Int):=by omega
     have Pf:Hid (k=0):=hk0;clear hk0;go_wp2_with fail;refine (NL (K k) (N k) (M k) (S k) wr HO.I).mono ?_;rintro e w2 ⟨rfl,hb2⟩;have HW2:Hid (Below w.heap.size w w2∧iG w2 g len K N M S):=⟨HW.I.1.trans (hb2.mono HW.I.1.size),HW.I.2.below hb2⟩
     clear hb2 c0 c1 c2 c3;go_wp2;go_roundw
     case rel=>exact ⟨k+1,by omega,by go_num,by rw [HX.I,if_pos Pf.I],HW2⟩
     case measure=>simp [intOf]; omega
    ·have hk1:(0:Int) < (k:Int):=by omega
     have Pf:Hid (¬ k=0):=hk0;clear hk0;go_wp2_with fail;refine (NL (K k) (N k) (M k) (S k) wr HO.I).mono ?_;rintro e w2 ⟨rfl,hb2⟩;have HW2:Hid (Below w.heap.size w w2∧iG w2 g len K N M S):=⟨HW.I.1.trans (hb2.mono HW.I.1.size),HW.I.2.below hb2⟩
     clear hb2 c0 c1 c2 c3;go_wp2;go_roundw
     case rel=>exact ⟨k+1,by omega,by go_num,by rw [HX.I,if_neg Pf.I],HW2⟩
     case measure=>simp [intOf]; omega
   ·go_wp2
    go_ret;have e:k=len:=by omega
    subst e;exact ⟨by rw [M0,if_pos HF.I.2.2.2]; rfl,HW.I.1⟩
end Go.Proofs.YtkbcplnlehdjfaaGreat

namespace Go.Proofs.YtkbcplnlehdjfaaGreat
open Go.RowKit
end Go.Proofs.YtkbcplnlehdjfaaGreat
