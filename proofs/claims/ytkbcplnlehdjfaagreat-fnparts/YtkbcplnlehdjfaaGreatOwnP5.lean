/- What the proof leans on, part 5. -/
import Derived.Test.YtkbcplnlehdjfaaGreatOwnP3
import Derived.Deep.DrawnRows
set_option maxRecDepth 100000
set_option maxHeartbeats 8000000
open Go renaming block_lt_of_cell->Le,bodyPost_ret->KT
open Go.Proofs.Tryz renaming func290->Ry,ntmps290->Rz,prog->J3
open List renaming getElem?_eq_getElem->Kz,getElem?_eq_some_iff->Lj,mem_of_getElem?->KA
open Nat renaming succ_mul->Lh

namespace Go.Proofs.YtkbcplnlehdjfaaGreat
section
open Go.RowKit
attribute [local go_sem ↓] Go.wp_at_zero Go.wp_at_succ
theorem pu (k:Int) (w:World):Calls J3 320 #[.agg #[.int .i64 k]] w fun e w'=>e= .returned (.agg #[.int .i64 k,.int .i64 0,.int .i64 0,.string ByteArray.empty])∧Below w.heap.size w w':=by
 go_enter Tryz.func320,Tryz.ntmps320
 go_wp2;exact KT (v:= .agg #[.int .i64 k,.int .i64 0,.int .i64 0,.string ByteArray.empty]) (by simp [results,Tryz.results320,go_sem]; try rfl) rfl ⟨rfl,by go_grown⟩
theorem oJ (k n:Int) (w:World):Calls J3 316 #[.agg #[.int .i64 k,.int .i64 n]] w fun e w'=>e= .returned (.agg #[.int .i64 k,.int .i64 n,.int .i64 0,.string ByteArray.empty])∧Below w.heap.size w w':=by
 go_enter Tryz.func316,Tryz.ntmps316
 go_wp2;exact KT (v:= .agg #[.int .i64 k,.int .i64 n,.int .i64 0,.string ByteArray.empty]) (by simp [results,Tryz.results316,go_sem]; try rfl) rfl ⟨rfl,by go_grown⟩
theorem xk (k n m:Int) (w:World):Calls J3 317 #[.agg #[.int .i64 k,.int .i64 n,.int .i64 m]] w fun e w'=>e= .returned (.agg #[.int .i64 k,.int .i64 n,.int .i64 m,.string ByteArray.empty])∧Below w.heap.size w w':=by
 go_enter Tryz.func317,Tryz.ntmps317
 go_wp2;exact KT (v:= .agg #[.int .i64 k,.int .i64 n,.int .i64 m,.string ByteArray.empty]) (by simp [results,Tryz.results317,go_sem]; try rfl) rfl ⟨rfl,by go_grown⟩
theorem Fc (k n m:Int) (s:ByteArray) (w:World):Calls J3 318 #[.agg #[.int .i64 k,.int .i64 n,.int .i64 m,.string s]] w fun e w'=>e= .returned (.agg #[.int .i64 k,.int .i64 n,.int .i64 m,.string s])∧Below w.heap.size w w':=by
 go_enter Tryz.func318,Tryz.ntmps318
 go_wp2;exact KT (v:= .agg #[.int .i64 k,.int .i64 n,.int .i64 m,.string s]) (by simp [results,Tryz.results318,go_sem]; try rfl) rfl ⟨rfl,by go_grown⟩
theorem xS (k n:Int) (s:ByteArray) (w:World):Calls J3 319 #[.agg #[.int .i64 k,.int .i64 n,.string s]] w fun e w'=>e= .returned (.agg #[.int .i64 k,.int .i64 n,.int .i64 0,.string s])∧Below w.heap.size w w':=by
 go_enter Tryz.func319,Tryz.ntmps319
 go_wp2;exact KT (v:= .agg #[.int .i64 k,.int .i64 n,.int .i64 0,.string s]) (by simp [results,Tryz.results319,go_sem]; try rfl) rfl ⟨rfl,by go_grown⟩
theorem DB (k n m:Int) (s:ByteArray) (w:World) (hk:pJ k):
  Calls J3 290 #[.agg #[.int .i64 k,.int .i64 n,.int .i64 m,.string s]] w fun e w'=>e= .returned (.tuple #[.iface 330 (.agg #[.int .i64 k,.int .i64 n]),.bool true])∧Below w.heap.size w w':=by
 rcases hk with rfl | rfl | rfl | rfl | rfl | rfl | rfl | rfl | rfl
 all_goals
  go_enter Ry,Rz
  go_wp2;go_ret2;exact ⟨rfl,by go_grown⟩
theorem AC (k n m:Int) (s:ByteArray) (w:World) (hk:mF k):
  Calls J3 290 #[.agg #[.int .i64 k,.int .i64 n,.int .i64 m,.string s]] w fun e w'=>e= .returned (.tuple #[.iface 332 (.agg #[.int .i64 k,.int .i64 n,.int .i64 m]),.bool true])∧Below w.heap.size w w':=by
 rcases hk with rfl | rfl | rfl | rfl
 all_goals
  go_enter Ry,Rz
  go_wp2;go_ret2;exact ⟨rfl,by go_grown⟩
theorem AE (k n m:Int) (s:ByteArray) (w:World) (hk:k=8):
  Calls J3 290 #[.agg #[.int .i64 k,.int .i64 n,.int .i64 m,.string s]] w fun e w'=>e= .returned (.tuple #[.iface 334 (.agg #[.int .i64 k,.int .i64 n,.int .i64 m,.string s]),.bool true])∧Below w.heap.size w w':=by
 rcases hk with rfl
 all_goals
  go_enter Ry,Rz
  go_wp2;go_ret2;exact ⟨rfl,by go_grown⟩
theorem BJ (k n m:Int) (s:ByteArray) (w:World) (hk:isText k):
  Calls J3 290 #[.agg #[.int .i64 k,.int .i64 n,.int .i64 m,.string s]] w fun e w'=>e= .returned (.tuple #[.iface 336 (.agg #[.int .i64 k,.int .i64 n,.string s]),.bool true])∧Below w.heap.size w w':=by
 rcases hk with rfl | rfl
 all_goals
  go_enter Ry,Rz
  go_wp2;go_ret2;exact ⟨rfl,by go_grown⟩
theorem Ag (k n m:Int) (s:ByteArray) (w:World) (hk:k=17):
  Calls J3 290 #[.agg #[.int .i64 k,.int .i64 n,.int .i64 m,.string s]] w fun e w'=>e= .returned (.tuple #[.iface 338 (.agg #[.int .i64 k]),.bool true])∧Below w.heap.size w w':=by
 rcases hk with rfl
 all_goals
  go_enter Ry,Rz
  go_wp2;go_ret2;exact ⟨rfl,by go_grown⟩
theorem BR (k n m:Int) (s:ByteArray) (w:World) (hk: ¬ (1≤k∧k≤17)):
  Calls J3 290 #[.agg #[.int .i64 k,.int .i64 n,.int .i64 m,.string s]] w fun e w'=>e= .returned (.tuple #[.iface 338 (.agg #[.int .i64 0]),.bool false])∧Below w.heap.size w w':=by
 have e1:(k == 1)=false:=by simp; omega
 have e2:(k == 2)=false:=by simp; omega
 have e3:(k == 3)=false:=by simp; omega
 have e4:(k == 4)=false:=by simp; omega
 have e5:(k == 5)=false:=by simp; omega
 have e6:(k == 6)=false:=by simp; omega
 have e7:(k == 7)=false:=by simp; omega
 have e8:(k == 8)=false:=by simp; omega
 have e9:(k == 9)=false:=by simp; omega
 have Pn:(k == 10)=false:=by simp; omega
 have e11:(k == 11)=false:=by simp; omega
 have PF:(k == 12)=false:=by simp; omega
 have PG:(k == 13)=false:=by simp; omega
 have e14:(k == 14)=false:=by simp; omega
 have e15:(k == 15)=false:=by simp; omega
 have e16:(k == 16)=false:=by simp; omega
 have PH:(k == 17)=false:=by simp; omega
 go_enter Ry,Rz
 go_wp2;go_ret2;exact ⟨rfl,by go_grown⟩
end
section
open Go.RowKit
def Row (w:World) (a:Option Addr) (xs:List Value):Prop:= ∀ (j:Nat) (u:Value),xs[j]? =some u→ ∃ g,a=some ⟨g,0,none⟩∧w.cell? ⟨g,j,none⟩=some u
section
variable {w w':World} {a:Option Addr} {xs:List Value}
theorem Row.nothing (w:World) (a:Option Addr):Row w a [] :=fun j u h=>by simp at h
theorem Row.same (h:Row w a xs) (hs: ∀ g,a=some ⟨g,0,none⟩→w'.heap[g]? =w.heap[g]?):Row w' a xs:=fun j u hu=>by
 obtain ⟨g,e,hc⟩:=h j u hu;exact ⟨g,e,(World.cell?_of_block (w:=w) (a:=⟨g,j,none⟩) (hs g e)).trans hc⟩
theorem Row.below (h:Row w a xs) (hb:Below w.heap.size w w'):Row w' a xs:=fun j u hu=>by
 obtain ⟨g,e,hc⟩:=h j u hu;exact ⟨g,e,(hb.cell (p:=⟨g,j,none⟩) (Le hc)).trans hc⟩
theorem Row.low {base:Nat} (h:Row w a xs) (ha: ∀ q,a=some q→q.block < base) (hb:Below base w w'):Row w' a xs:=h.same fun g e=>hb.block g (ha _ e)
theorem Row.drew (h:Row w a xs):Row w.drew a xs:=h
end
def Src (w:World) (a:Option Addr) (xs:List Value):Prop:= ∀ (j:Nat) (u:Value),xs[j]? =some u→ ∃ b off,a=some ⟨b,off,none⟩∧w.cell? ⟨b,off+j,none⟩=some u
theorem Src.below {w w':World} {a:Option Addr} {xs:List Value} (h:Src w a xs) (hb:Below w.heap.size w w'):Src w' a xs:=fun j u hu=>by
 obtain ⟨b,off,e,hc⟩:=h j u hu;exact ⟨b,off,e,(hb.cell (p:=⟨b,off+j,none⟩) (Le hc)).trans hc⟩
structure Kind (α:Type) where
 n:Nat
 vals:α→List Value
 kids:α→List (Option Addr × List Value)
 pos:0 < n
 len: ∀ x,(vals x).length=n
section
variable {α:Type} (K:Kind α)
def Kind.flat (l:List α):List Value:=l.flatMap K.vals
theorem Kind.dM (l:List α):(K.flat l).length=l.length * K.n:=by
 induction l with
 | nil=>simp [Kind.flat]
 | cons x r ih=>
  show (K.vals x ++ K.flat r).length=_
  rw [List.length_append,ih,K.len,List.length_cons,Lh];omega
theorem Kind.jw {l:List α} {i:Nat} {x:α} (hx:l[i]? =some x) {j:Nat} (hj:j < K.n):(K.flat l)[i * K.n+j]? =(K.vals x)[j]? :=by
 induction l generalizing i with
 | nil=>simp at hx
 | cons y r ih=>
  show (K.vals y ++ K.flat r)[_]? =_
  cases i with
  | zero=>
   simp at hx;subst hx;rw [Nat.zero_mul,Nat.zero_add,List.getElem?_append_left (by rw [K.len]; exact hj)]
  | succ i=>
   have hx':r[i]? =some x:=by simpa using hx
   rw [List.getElem?_append_right (by rw [K.len,Lh]; omega),K.len,show (i+1) * K.n+j - K.n=i * K.n+j by rw [Lh]; omega];exact ih hx'
theorem Kind.dc (l r:List α):K.flat (l ++ r)=K.flat l ++ K.flat r:=List.flatMap_append
theorem Kind.GJ (x:α):K.flat [x] =K.vals x:=by simp [Kind.flat]
def Kind.bU (w:World) (a:Option Addr) (l:List α):Prop:=Row w a (K.flat l)∧ ∀ x∈l,∀ r∈K.kids x,Row w r.1 r.2
variable {K}
theorem Kind.bU.at {w:World} {a:Option Addr} {l:List α} (h:K.bU w a l) {i:Nat} {x:α} (hx:l[i]? =some x):
  ∃ g,a=some ⟨g,0,none⟩∧ ∀ (j:Nat) (u:Value),(K.vals x)[j]? =some u→w.cell? ⟨g,i * K.n+j,none⟩=some u:=by
 have h0: ∃ u,(K.vals x)[0]? =some u:=⟨_,Kz (by rw [K.len]; exact K.pos)⟩
 obtain ⟨u0,hu0⟩:=h0;obtain ⟨g,e,_⟩:=h.1 (i * K.n+0) u0 ((K.jw hx K.pos).trans hu0);refine ⟨g,e,fun j u hu=> ?_⟩;have hj:j < K.n:=by
  rw [← K.len x];exact (Lj.1 hu).1
 obtain ⟨g',e',hc⟩:=h.1 (i * K.n+j) u ((K.jw hx hj).trans hu);rw [e] at e';cases e';exact hc
theorem Kind.bU.bt {w:World} {a:Option Addr} {l:List α} (h:K.bU w a l) {i:Nat} {x:α} (hx:l[i]? =some x) {r:Option Addr × List Value} (hr:r∈K.kids x):Row w r.1 r.2:=h.2 x (KA hx) r hr
variable (K) in
def Kind.ep (w:World) (a:Option Addr) (l:List α):Prop:=Src w a (K.flat l)∧ ∀ x∈l,∀ r∈K.kids x,Src w r.1 r.2
theorem Kind.ep.at {w:World} {a:Option Addr} {l:List α} (h:K.ep w a l) {i:Nat} {x:α} (hx:l[i]? =some x):
  ∃ b off,a=some ⟨b,off,none⟩∧ ∀ (j:Nat) (u:Value),(K.vals x)[j]? =some u→w.cell? ⟨b,off+i * K.n+j,none⟩=some u:=by
 have h0: ∃ u,(K.vals x)[0]? =some u:=⟨_,Kz (by rw [K.len]; exact K.pos)⟩
 obtain ⟨u0,hu0⟩:=h0;obtain ⟨b,off,e,_⟩:=h.1 (i * K.n+0) u0 ((K.jw hx K.pos).trans hu0);refine ⟨b,off,e,fun j u hu=> ?_⟩;have hj:j < K.n:=by
  rw [← K.len x];exact (Lj.1 hu).1
 obtain ⟨b',off',e',hc⟩:=h.1 (i * K.n+j) u ((K.jw hx hj).trans hu);rw [e] at e';cases e';rw [Nat.add_assoc];exact hc
theorem Kind.ep.bt {w:World} {a:Option Addr} {l:List α} (h:K.ep w a l) {i:Nat} {x:α} (hx:l[i]? =some x) {r:Option Addr × List Value} (hr:r∈K.kids x):Src w r.1 r.2:=h.2 x (KA hx) r hr
theorem Kind.ep.below {w w':World} {a:Option Addr} {l:List α} (h:K.ep w a l) (hb:Below w.heap.size w w'):K.ep w' a l:=⟨h.1.below hb,fun x hx r hr=>(h.2 x hx r hr).below hb⟩
theorem Kind.bU.below {w w':World} {a:Option Addr} {l:List α} (h:K.bU w a l) (hb:Below w.heap.size w w'):K.bU w' a l:=⟨h.1.below hb,fun x hx r hr=>(h.2 x hx r hr).below hb⟩
end
def CC (o:dN):List Value:= [.int .i64 o.1,.int .i64 o.2.1,.int .i64 o.2.2.1,.string o.2.2.2]
def fk:Kind dN:=⟨4,CC,fun _=> [],by decide,fun _=>rfl⟩
def bT:Kind ByteArray:=⟨1,fun s=> [.string s],fun _=> [],by decide,fun _=>rfl⟩
end
end Go.Proofs.YtkbcplnlehdjfaaGreat
