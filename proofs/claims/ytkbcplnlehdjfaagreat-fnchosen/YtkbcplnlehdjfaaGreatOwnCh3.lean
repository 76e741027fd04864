/- What the proof leans on, part 3: PList, MapIs, OpOk. -/
import Derived.Test.YtkbcplnlehdjfaaGreatOwnCh2
import Derived.Maps.OwnSet
import Derived.Maps.RangeWalk
import Derived.Deep.RegionWith
set_option maxRecDepth 100000
set_option maxHeartbeats 8000000

namespace Go.Proofs.YtkbcplnlehdjfaaGreat
open Go.RowKit
def kOf(os:List OpD)(i:Nat):Int:=(os[i]?.getD(0,0,0,⟨#[]⟩)).1
def nOf(os:List OpD)(i:Nat):Int:=(os[i]?.getD(0,0,0,⟨#[]⟩)).2.1
def mOf(os:List OpD)(i:Nat):Int:=(os[i]?.getD(0,0,0,⟨#[]⟩)).2.2.1
def sOf(os:List OpD)(i:Nat):ByteArray:=(os[i]?.getD(0,0,0,⟨#[]⟩)).2.2.2
def ListAt(w:World)(g:Nat)(os:List OpD):Prop:=OpsAt w g os.length(kOf os)(nOf os)(mOf os)(sOf os)
def LiesO(w:World)(a:Option Addr)(os:List OpD):Prop:=0 < os.length→ ∃ g,a=some⟨g,0,none⟩∧ListAt w g os
theorem LiesO.below {w w':World} {a:Option Addr} {os:List OpD} (h:LiesO w a os)(hb:Below w.heap.size w w'):LiesO w' a os:=fun hl=>by
 obtain⟨g,rfl,hw⟩:=h hl
 exact⟨g,rfl,OpsAt.below hw hb⟩
theorem LiesO.low {w w':World} {a:Option Addr} {base:Nat} {os:List OpD} (h:LiesO w a os)(ha: ∀ q,a=some q→q.block < base)(hb:Below base w w'):LiesO w' a os:=fun hl=>by
 obtain⟨g,rfl,hw⟩:=h hl
 exact⟨g,rfl,OpsAt.of_block hw(hb.block g(ha _ rfl))⟩
end Go.Proofs.YtkbcplnlehdjfaaGreat

namespace Go.Proofs.YtkbcplnlehdjfaaGreat
open Go.RowKit Go.Maps
def ptrR(v:Value):Option(DataW Unit × List MemPlace):=match v with
 | .pointer(some⟨g,0,none⟩)=>some(.lit(.int .i64 g),[])
 | _=>none
def ptrV(g:Nat):Value:= .pointer(some⟨g,0,none⟩)
def ptrO:Option Nat→Value
 | none=> .pointer none
 | some g=>ptrV g
theorem ptrR_mk(g:Nat):ptrR(ptrV g)=some(.lit(.int .i64 g),[]):=rfl
theorem ptrR_inv {v:Value} {z:DataW Unit × List MemPlace} (h:ptrR v=some z): ∃ g:Nat,v=ptrV g∧z=(.lit(.int .i64 g),[]):=by
 unfold ptrR at h
 split at h
 ·rename_i g
  cases h
  exact⟨g,rfl,rfl⟩
 ·cases h
abbrev MapL:=List(Int × Nat)
def encP(p:Int × Nat):Lit × DataW Unit:=(.int .i64 p.1,.lit(.int .i64 p.2))
def mapD(m:MapL):DataW Unit:= .map(m.map encP)
def Rises(m:MapL):Prop:=m.Pairwise(fun p q=>p.1 < q.1)
def lookM(m:MapL)(k:Int):Option Nat:=(m.find? (fun p=>p.1 == k)).map(·.2)
def insM(p:Int × Nat):MapL→MapL
 | [] => [p]
 | y :: r=>if p.1 < y.1 then p :: y :: r else y :: insM p r
def MapIs(w:World)(b:Nat)(m:MapL):Prop:=w.ownsMap Tryz.prog 2 ptrR b m.length(mapD m)∧Rises m
theorem keyed64:Keyed Tryz.prog 2:=int_keyed Tryz.underlying2
theorem key64 {k:Int} (hk:(Lit.int .i64 k).wf=true):keyOf Tryz.prog 2(.int .i64 k)=some(.int .i64 k):=keyOf_int_mk Tryz.underlying2 hk
theorem sameKey_int(a b:Int):(Lit.int .i64 a).sameKey(.int .i64 b)=(a == b):=by
 simp [Lit.sameKey]
 by_cases h:a=b <;> simp [h]
theorem find_enc(m:MapL)(k:Int):(m.map encP).find? (fun p=>p.1.sameKey(.int .i64 k))=(m.find? (fun p=>p.1 == k)).map encP:=by
 induction m with
 | nil=>rfl
 | cons p r ih=>
  simp only [List.map_cons,List.find?_cons]
  have e:(encP p).1.sameKey(.int .i64 k)=(p.1 == k):=sameKey_int _ _
  rw [e]
  cases (p.1 == k)
  ·exact ih
  ·rfl
theorem atKey_map(m:MapL)(k:Int)(z:DataW Unit):(mapD m).atKey(.int .i64 k)z=match lookM m k with | some g=> .lit(.int .i64 g) | none=>z:=by
 simp only [mapD,DataW.atKey,find_enc]
 unfold lookM
 cases m.find? (fun p=>p.1 == k) <;> rfl
theorem size_map(m:MapL):Maps.size(mapD m)=m.length:=by simp [Maps.size,mapD]
section
variable {w w':World} {b:Nat} {m:MapL}
theorem MapIs.lt(h:MapIs w b m):b < w.heap.size:=h.1.lt
theorem MapIs.same(h:MapIs w b m)(hs:w'.heap[b]? =w.heap[b]?):MapIs w' b m:=by
 obtain⟨⟨es,clock,hb,r⟩,h2⟩:=h
 exact⟨⟨es,clock,hs.trans hb,r⟩,h2⟩
theorem MapIs.below(h:MapIs w b m)(hb:Below w.heap.size w w'):MapIs w' b m:=h.same(hb.block b h.lt)
theorem MapIs.made(w:World):MapIs(w.alloc(.map #[] 0))w.heap.size [] :=⟨World.ownsMap_made w Tryz.prog 2 ptrR,List.Pairwise.nil⟩
theorem MapIs.of_empty(hb:w.heap[b]? =some(.map #[] 0)):MapIs w b [] :=⟨⟨#[],0,hb,⟨by simp,MapKept.stamped_empty 0,by simp⟩,by simp,rfl⟩,List.Pairwise.nil⟩
theorem MapIs.look(h:MapIs w b m) {t e:TypeId} (ht:Tryz.prog.underlying t=some(.map 2 e))(hz:(zeroValue e).run Tryz.prog w= .ok(.pointer none)w) {k:Int} (hk:(Lit.int .i64 k).wf=true)(c:Bool):
  (Instr.lookup t(.map(some b))(.int .i64 k)c).run Tryz.prog w= .ok(if c then .tuple #[ptrO(lookM m k),.bool(lookM m k).isSome] else ptrO(lookM m k))w:=by
 obtain⟨⟨es,clock,hb,F,_,hD⟩,_⟩:=h
 rcases Maps.fit_look c keyed64 ht hz hb F(key64 hk)with ⟨hrun,_,hat⟩ | ⟨e0,y,_,_,hrun,hRv,hat,_⟩
 ·have h1:=hat .nil
  rw [← hD,atKey_map] at h1
  have h2:=hat(.lit(.bool true))
  rw [← hD,atKey_map] at h2
  cases hl:lookM m k with
  | none=>exact hrun
  | some g=>rw [hl] at h1; cases h1
 ·obtain⟨g,hv,rfl⟩:=ptrR_inv hRv
  have h1:=hat .nil
  rw [← hD,atKey_map] at h1
  cases hl:lookM m k with
  | none=>rw [hl] at h1; cases h1
  | some g'=>
   rw [hl] at h1
   simp only [DataW.lit.injEq,Lit.int.injEq,Int.natCast_inj,true_and] at h1
   rw [hrun,hv,h1]
   cases c <;> rfl
theorem MapIs.len(h:MapIs w b m) {t e:TypeId} (ht:Tryz.prog.underlying t=some(.map 2 e))(ty:TypeId):(Builtin.len_ #[t] ty #[.map(some b)]).run Tryz.prog w= .ok(.int .i64(m.length:Int))w:=by
 have:=h.1.len ht ty
 rwa [size_map] at this
theorem insM_length(p:Int × Nat)(m:MapL):(insM p m).length=m.length+1:=by
 induction m with
 | nil=>rfl
 | cons y r ih=>
  unfold insM
  split
  ·rfl
  ·simp [ih]
theorem insM_mem {p q:Int × Nat} {m:MapL} :q∈insM p m↔q=p∨q∈m:=by
 induction m with
 | nil=>simp [insM]
 | cons y r ih=>
  unfold insM
  split
  ·simp
  ·simp only [List.mem_cons,ih]
   constructor
   ·rintro (h | h | h)
    ·exact .inr(.inl h)
    ·exact .inl h
    ·exact .inr(.inr h)
   ·rintro (h | h | h)
    ·exact .inr(.inl h)
    ·exact .inl h
    ·exact .inr(.inr h)
theorem insM_rises {p:Int × Nat} {m:MapL} (h:Rises m)(hn:lookM m p.1=none):Rises(insM p m):=by
 induction m with
 | nil=>exact List.pairwise_singleton _ _
 | cons y r ih=>
  obtain⟨h1,h2⟩:=List.pairwise_cons.1 h
  have hy: ¬ y.1=p.1:=by
   intro e
   simp [lookM,e] at hn
  have hn':lookM r p.1=none:=by
   unfold lookM at hn ⊢
   rw [List.find?_cons] at hn
   have:(y.1 == p.1)=false:=by simp [hy]
   rw [this] at hn
   exact hn
  unfold insM
  split
  ·rename_i hlt
   refine List.pairwise_cons.2⟨fun q hq=> ?_,h⟩
   rcases List.mem_cons.1 hq with rfl | hq
   ·exact hlt
   ·exact Int.lt_trans hlt(h1 q hq)
  ·rename_i hge
   refine List.pairwise_cons.2⟨fun q hq=> ?_,ih h2 hn'⟩
   rcases insM_mem.1 hq with rfl | hq
   ·omega
   ·exact h1 q hq
theorem put_map {m:MapL} {k:Int} {g:Nat} (hn:lookM m k=none):(mapD m).put(.int .i64 k)(.lit(.int .i64 g))=mapD(insM(k,g)m):=by
 have hf:(m.map encP).filter(fun p=> !p.1.sameKey(.int .i64 k))=m.map encP:=by
  refine List.filter_eq_self.2(fun p hp=> ?_)
  obtain⟨q,hq,rfl⟩:=List.mem_map.1 hp
  have e:(encP q).1.sameKey(.int .i64 k)=(q.1 == k):=sameKey_int _ _
  rw [e]
  have:m.find? (fun p=>p.1 == k)=none:=by simpa [lookM] using hn
  have:=List.find?_eq_none.1 this q hq
  simpa using this
 show DataW.map(DataW.insert _((m.map encP).filter _))=_
 rw [hf]
 show DataW.map(DataW.insert(encP(k,g))(m.map encP))= .map((insM(k,g)m).map encP)
 congr 1
 induction m with
 | nil=>rfl
 | cons y r ih=>
  unfold insM
  simp only [List.map_cons,DataW.insert]
  have e:(encP(k,g)).1.before(encP y).1=decide(k < y.1):=rfl
  rw [e]
  by_cases hlt:k < y.1
  ·simp [hlt]
  ·have hn':lookM r k=none:=by
    unfold lookM at hn ⊢
    rw [List.find?_cons] at hn
    split at hn
    ·cases hn
    ·exact hn
   have hf':(r.map encP).filter(fun p=> !p.1.sameKey(.int .i64 k))=r.map encP:=by
    simp only [List.map_cons,List.filter_cons] at hf
    split at hf
    ·exact(List.cons.inj hf).2
    ·have:=congrArg List.length hf
     have h2:=List.length_filter_le(fun p:Lit × DataW Unit=> !p.1.sameKey(.int .i64 k))(r.map encP)
     simp only [List.length_cons] at this
     omega
   simp only [hlt,decide_false,Bool.false_eq_true,if_false]
   rw [ih hn' hf']
   simp
theorem MapIs.put(h:MapIs w b m) {t e:TypeId} (ht:Tryz.prog.underlying t=some(.map 2 e)) {k:Int} (hk:(Lit.int .i64 k).wf=true)(g:Nat)(hn:lookM m k=none)(hm:m.length≤1048576):
  ∃ w',(Instr.mapUpdate t(.map(some b))(.int .i64 k)(ptrV g)).run Tryz.prog w= .ok()w'∧MapIs w' b(insM(k,g)m)∧w.mapTurned w' b:=by
 obtain⟨w',hrun,ho,ht'⟩:=h.1.store keyed64 ht(Nat.lt_of_le_of_lt hm(by decide))(key64 hk)(ptrR_mk g)
 refine⟨w',hrun,⟨?_,insM_rises h.2 hn⟩,ht'⟩
 rw [put_map hn] at ho
 rwa [insM_length]
end
theorem lookM_none {m:MapL} {k:Int} :lookM m k=none↔k∉m.map(·.1):=by
 unfold lookM
 rw [Option.map_eq_none_iff,List.find?_eq_none]
 constructor
 ·intro h hm
  obtain⟨p,hp,e⟩:=List.mem_map.1 hm
  exact h p hp(by simp [e])
 ·intro h p hp e
  exact h(List.mem_map.2⟨p,hp,by simpa using e⟩)
theorem lookM_isSome(m:MapL)(k:Int):(lookM m k).isSome=decide(k∈m.map(·.1)):=by
 by_cases h:k∈m.map(·.1)
 ·rw [decide_eq_true h]
  cases hl:lookM m k with
  | none=>exact absurd h(lookM_none.1 hl)
  | some g=>rfl
 ·rw [decide_eq_false h,lookM_none.2 h]
  rfl
theorem lookM_mem {m:MapL} (hr:Rises m) {p:Int × Nat} (hp:p∈m):lookM m p.1=some p.2:=by
 induction m with
 | nil=>cases hp
 | cons y r ih=>
  obtain⟨h1,h2⟩:=List.pairwise_cons.1 hr
  rcases List.mem_cons.1 hp with rfl | hp
  ·simp [lookM]
  ·have:=h1 p hp
   have hne:(y.1 == p.1)=false:=by
    have: ¬ y.1=p.1:=by omega
    simp [this]
   have:=ih h2 hp
   unfold lookM at this ⊢
   rw [List.find?_cons,hne]
   exact this
theorem mem_of_lookM {m:MapL} {k:Int} {g:Nat} (h:lookM m k=some g):(k,g)∈m:=by
 unfold lookM at h
 obtain⟨p,hp,e⟩:=Option.map_eq_some_iff.1 h
 have h1:=List.mem_of_find?_eq_some hp
 have h2:=List.find?_some hp
 simp at h2
 rw [← h2,← e]
 exact h1
end Go.Proofs.YtkbcplnlehdjfaaGreat

namespace Go.Proofs.YtkbcplnlehdjfaaGreat
open Go.RowKit
attribute [local go_sem ↓] Go.wp_at_zero Go.wp_at_succ
theorem cells_below {w w1 : World} {cs : Array Value} {t : TypeId} (h : Below (w.alloc (.cells cs t)).heap.size (w.alloc (.cells cs t)) w1) (i : Nat) : w1.cell? ⟨w.heap.size, i, none⟩ = cs[i]? :=
  (h.cell (p := ⟨w.heap.size, i, none⟩) (by simp)).trans (by simp)
theorem below_undrew {B : Nat} {w w' : World} (h : Below B w.drew w') : Below B w w' := ⟨h.os, h.tape, h.output, h.size, h.block⟩
theorem below_drewN {B : Nat} {w w' : World} (h : Below B w w') (n : Nat) : Below B w (w'.drewN n) := ⟨h.os, h.tape, h.output, h.size, h.block⟩
theorem opB_num {k n m : Int} {s : ByteArray} (h : isNum k) : opB k n m s = (inB n 1 1000 && decide (m = 0) && emptyB s) := by
  unfold isNum at h
  unfold opB
  rw [if_pos h]
theorem opB_wait {k n m : Int} {s : ByteArray} (h : isWait k) : opB k n m s = (inB n 1 1000 && inB m (-1) 1000 && emptyB s) := by
  unfold isWait at h
  unfold opB
  rw [if_neg (by omega), if_pos h]
theorem opB_send {k n m : Int} {s : ByteArray} (h : k = 8) : opB k n m s = (inB n 1 1000 && inB m (-1) 1000 && plainB s) := by
  unfold opB
  rw [if_neg (by omega), if_neg (by omega), if_pos h]
theorem opB_text {k n m : Int} {s : ByteArray} (h : isText k) : opB k n m s = (inB n 1 1000 && decide (m = 0) && plainB s) := by
  unfold isText at h
  unfold opB
  rw [if_neg (by omega), if_neg (by omega), if_neg (by omega), if_pos h]
theorem opB_loop {k n m : Int} {s : ByteArray} (h : k = 17) : opB k n m s = (decide (n = 0) && decide (m = 0) && emptyB s) := by
  unfold opB
  rw [if_neg (by omega), if_neg (by omega), if_neg (by omega), if_neg (by omega), if_pos h]
theorem implOp_num (k n m : Int) (s : ByteArray) (w : World) (hk : isNum k) :
    Calls Tryz.prog 287 #[.agg #[.int .i64 k, .int .i64 n, .int .i64 m, .string s]] w fun e w' => e = .returned (.bool (opB k n m s)) ∧ Below w.heap.size w w' := by
  have HO : Hid (opB k n m s = (inB n 1 1000 && decide (m = 0) && emptyB s)) := opB_num hk
  have HK : Hid (isNum k) := hk
  clear hk
  go_enter Tryz.func287, Tryz.ntmps287
  go_wp2_with fail
  refine (formOf_num k n m s _ HK.out).mono ?_
  rintro e w1 ⟨rfl, hb1⟩
  have c0 : w1.cell? ⟨w.heap.size, 0, none⟩ = some (.int .i64 k) := cells_below hb1 0
  have c1 : w1.cell? ⟨w.heap.size, 1, none⟩ = some (.int .i64 n) := cells_below hb1 1
  have c2 : w1.cell? ⟨w.heap.size, 2, none⟩ = some (.int .i64 m) := cells_below hb1 2
  have c3 : w1.cell? ⟨w.heap.size, 3, none⟩ = some (.string s) := cells_below hb1 3
  have HB1 : Hid (Below w.heap.size w w1) := ((Below.refl _ _).alloc (Nat.le_refl _) _).trans (hb1.mono (by simp))
  have HS1 : Hid (w.heap.size < w1.heap.size) := by have := hb1.size; simp only [World.size_alloc] at this; exact this
  clear hb1
  by_cases hm : m = 0
  rotate_left
  · have hm' : ¬ 0 = m := fun h => hm h.symm
    go_wp2_with fail
    first
      | (go_region_with
      ((first
        | (go_at_call 316
           refine (asOp_number _ _ _).mono ?_
           rintro e w2 ⟨rfl, hb2⟩
           have hb2 : Below w1.heap.size w1 w2 := below_undrew hb2
           have HB2 : Hid (Below w.heap.size w w2) := HB1.out.trans (hb2.mono (by have := HS1.out; show w.heap.size ≤ w1.heap.size; omega))
           have HS2 : Hid (w.heap.size < w2.heap.size) := by have h1 := HS1.out; have h2 : w1.heap.size ≤ w2.heap.size := hb2.size; exact Nat.lt_of_lt_of_le h1 h2
           have d0 : w2.cell? ⟨w.heap.size, 0, none⟩ = some (.int .i64 k) := (hb2.cell (p := ⟨w.heap.size, 0, none⟩) HS1.out).trans c0
           have d1 : w2.cell? ⟨w.heap.size, 1, none⟩ = some (.int .i64 n) := (hb2.cell (p := ⟨w.heap.size, 1, none⟩) HS1.out).trans c1
           have d2 : w2.cell? ⟨w.heap.size, 2, none⟩ = some (.int .i64 m) := (hb2.cell (p := ⟨w.heap.size, 2, none⟩) HS1.out).trans c2
           have d3 : w2.cell? ⟨w.heap.size, 3, none⟩ = some (.string s) := (hb2.cell (p := ⟨w.heap.size, 3, none⟩) HS1.out).trans c3
           clear hb2)
        | (go_at_call 291
           refine (formOk_number _ _ _).mono ?_
           rintro e w3 ⟨rfl, hb3⟩
           have HB3 : Hid (Below w.heap.size w w3) := HB2.out.trans (hb3.mono (by have := HS2.out; omega))
           have f0 : w3.cell? ⟨w.heap.size, 0, none⟩ = some (.int .i64 k) := (hb3.cell (p := ⟨w.heap.size, 0, none⟩) HS2.out).trans d0
           have f1 : w3.cell? ⟨w.heap.size, 1, none⟩ = some (.int .i64 n) := (hb3.cell (p := ⟨w.heap.size, 1, none⟩) HS2.out).trans d1
           have f2 : w3.cell? ⟨w.heap.size, 2, none⟩ = some (.int .i64 m) := (hb3.cell (p := ⟨w.heap.size, 2, none⟩) HS2.out).trans d2
           have f3 : w3.cell? ⟨w.heap.size, 3, none⟩ = some (.string s) := (hb3.cell (p := ⟨w.heap.size, 3, none⟩) HS2.out).trans d3
           clear hb3))))
      | (exact absurd rfl (by assumption))
    all_goals go_wp2
    all_goals go_ret
    all_goals exact ⟨ret_bool (by rw [HO.out]; simp [hm]), HB2.out⟩
  subst hm
  by_cases hes : s.toList = []
  rotate_left
  · have hes' : ¬ [] = s.toList := fun h => hes h.symm
    have hem : emptyB s = false := by simp [emptyB, hes]
    go_wp2_with fail
    first
      | (go_region_with
      ((first
        | (go_at_call 316
           refine (asOp_number _ _ _).mono ?_
           rintro e w2 ⟨rfl, hb2⟩
           have hb2 : Below w1.heap.size w1 w2 := below_undrew hb2
           have HB2 : Hid (Below w.heap.size w w2) := HB1.out.trans (hb2.mono (by have := HS1.out; show w.heap.size ≤ w1.heap.size; omega))
           have HS2 : Hid (w.heap.size < w2.heap.size) := by have h1 := HS1.out; have h2 : w1.heap.size ≤ w2.heap.size := hb2.size; exact Nat.lt_of_lt_of_le h1 h2
           have d0 : w2.cell? ⟨w.heap.size, 0, none⟩ = some (.int .i64 k) := (hb2.cell (p := ⟨w.heap.size, 0, none⟩) HS1.out).trans c0
           have d1 : w2.cell? ⟨w.heap.size, 1, none⟩ = some (.int .i64 n) := (hb2.cell (p := ⟨w.heap.size, 1, none⟩) HS1.out).trans c1
           have d2 : w2.cell? ⟨w.heap.size, 2, none⟩ = some (.int .i64 0) := (hb2.cell (p := ⟨w.heap.size, 2, none⟩) HS1.out).trans c2
           have d3 : w2.cell? ⟨w.heap.size, 3, none⟩ = some (.string s) := (hb2.cell (p := ⟨w.heap.size, 3, none⟩) HS1.out).trans c3
           clear hb2)
        | (go_at_call 291
           refine (formOk_number _ _ _).mono ?_
           rintro e w3 ⟨rfl, hb3⟩
           have HB3 : Hid (Below w.heap.size w w3) := HB2.out.trans (hb3.mono (by have := HS2.out; omega))
           have f0 : w3.cell? ⟨w.heap.size, 0, none⟩ = some (.int .i64 k) := (hb3.cell (p := ⟨w.heap.size, 0, none⟩) HS2.out).trans d0
           have f1 : w3.cell? ⟨w.heap.size, 1, none⟩ = some (.int .i64 n) := (hb3.cell (p := ⟨w.heap.size, 1, none⟩) HS2.out).trans d1
           have f2 : w3.cell? ⟨w.heap.size, 2, none⟩ = some (.int .i64 0) := (hb3.cell (p := ⟨w.heap.size, 2, none⟩) HS2.out).trans d2
           have f3 : w3.cell? ⟨w.heap.size, 3, none⟩ = some (.string s) := (hb3.cell (p := ⟨w.heap.size, 3, none⟩) HS2.out).trans d3
           clear hb3))))
      | (exact absurd rfl (by assumption))
    all_goals go_wp2
    all_goals go_ret
    all_goals exact ⟨ret_bool (by rw [HO.out]; simp [hem]), HB2.out⟩
  have hem : emptyB s = true := by simp [emptyB, hes]
  go_wp2_with fail
  first
    | (go_region_with
    ((first
      | (go_at_call 316
         refine (asOp_number _ _ _).mono ?_
         rintro e w2 ⟨rfl, hb2⟩
         have hb2 : Below w1.heap.size w1 w2 := below_undrew hb2
         have HB2 : Hid (Below w.heap.size w w2) := HB1.out.trans (hb2.mono (by have := HS1.out; show w.heap.size ≤ w1.heap.size; omega))
         have HS2 : Hid (w.heap.size < w2.heap.size) := by have h1 := HS1.out; have h2 : w1.heap.size ≤ w2.heap.size := hb2.size; exact Nat.lt_of_lt_of_le h1 h2
         have d0 : w2.cell? ⟨w.heap.size, 0, none⟩ = some (.int .i64 k) := (hb2.cell (p := ⟨w.heap.size, 0, none⟩) HS1.out).trans c0
         have d1 : w2.cell? ⟨w.heap.size, 1, none⟩ = some (.int .i64 n) := (hb2.cell (p := ⟨w.heap.size, 1, none⟩) HS1.out).trans c1
         have d2 : w2.cell? ⟨w.heap.size, 2, none⟩ = some (.int .i64 0) := (hb2.cell (p := ⟨w.heap.size, 2, none⟩) HS1.out).trans c2
         have d3 : w2.cell? ⟨w.heap.size, 3, none⟩ = some (.string s) := (hb2.cell (p := ⟨w.heap.size, 3, none⟩) HS1.out).trans c3
         clear hb2)
      | (go_at_call 291
         refine (formOk_number _ _ _).mono ?_
         rintro e w3 ⟨rfl, hb3⟩
         have HB3 : Hid (Below w.heap.size w w3) := HB2.out.trans (hb3.mono (by have := HS2.out; omega))
         have f0 : w3.cell? ⟨w.heap.size, 0, none⟩ = some (.int .i64 k) := (hb3.cell (p := ⟨w.heap.size, 0, none⟩) HS2.out).trans d0
         have f1 : w3.cell? ⟨w.heap.size, 1, none⟩ = some (.int .i64 n) := (hb3.cell (p := ⟨w.heap.size, 1, none⟩) HS2.out).trans d1
         have f2 : w3.cell? ⟨w.heap.size, 2, none⟩ = some (.int .i64 0) := (hb3.cell (p := ⟨w.heap.size, 2, none⟩) HS2.out).trans d2
         have f3 : w3.cell? ⟨w.heap.size, 3, none⟩ = some (.string s) := (hb3.cell (p := ⟨w.heap.size, 3, none⟩) HS2.out).trans d3
         clear hb3))))
    | (exact absurd rfl (by assumption))
  all_goals go_wp2
  all_goals go_ret
  all_goals exact ⟨ret_bool (by rw [HO.out]; simp_all), HB3.out⟩
theorem implOp_wait (k n m : Int) (s : ByteArray) (w : World) (hk : isWait k) :
    Calls Tryz.prog 287 #[.agg #[.int .i64 k, .int .i64 n, .int .i64 m, .string s]] w fun e w' => e = .returned (.bool (opB k n m s)) ∧ Below w.heap.size w w' := by
  have HO : Hid (opB k n m s = (inB n 1 1000 && inB m (-1) 1000 && emptyB s)) := opB_wait hk
  have HK : Hid (isWait k) := hk
  clear hk
  go_enter Tryz.func287, Tryz.ntmps287
  go_wp2_with fail
  refine (formOf_wait k n m s _ HK.out).mono ?_
  rintro e w1 ⟨rfl, hb1⟩
  have c0 : w1.cell? ⟨w.heap.size, 0, none⟩ = some (.int .i64 k) := cells_below hb1 0
  have c1 : w1.cell? ⟨w.heap.size, 1, none⟩ = some (.int .i64 n) := cells_below hb1 1
  have c2 : w1.cell? ⟨w.heap.size, 2, none⟩ = some (.int .i64 m) := cells_below hb1 2
  have c3 : w1.cell? ⟨w.heap.size, 3, none⟩ = some (.string s) := cells_below hb1 3
  have HB1 : Hid (Below w.heap.size w w1) := ((Below.refl _ _).alloc (Nat.le_refl _) _).trans (hb1.mono (by simp))
  have HS1 : Hid (w.heap.size < w1.heap.size) := by have := hb1.size; simp only [World.size_alloc] at this; exact this
  clear hb1
  by_cases hes : s.toList = []
  rotate_left
  · have hes' : ¬ [] = s.toList := fun h => hes h.symm
    have hem : emptyB s = false := by simp [emptyB, hes]
    go_wp2_with fail
    first
      | (go_region_with
      ((first
        | (go_at_call 317
           refine (asOp_wait _ _ _ _).mono ?_
           rintro e w2 ⟨rfl, hb2⟩
           have hb2 : Below w1.heap.size w1 w2 := below_undrew hb2
           have HB2 : Hid (Below w.heap.size w w2) := HB1.out.trans (hb2.mono (by have := HS1.out; show w.heap.size ≤ w1.heap.size; omega))
           have HS2 : Hid (w.heap.size < w2.heap.size) := by have h1 := HS1.out; have h2 : w1.heap.size ≤ w2.heap.size := hb2.size; exact Nat.lt_of_lt_of_le h1 h2
           have d0 : w2.cell? ⟨w.heap.size, 0, none⟩ = some (.int .i64 k) := (hb2.cell (p := ⟨w.heap.size, 0, none⟩) HS1.out).trans c0
           have d1 : w2.cell? ⟨w.heap.size, 1, none⟩ = some (.int .i64 n) := (hb2.cell (p := ⟨w.heap.size, 1, none⟩) HS1.out).trans c1
           have d2 : w2.cell? ⟨w.heap.size, 2, none⟩ = some (.int .i64 m) := (hb2.cell (p := ⟨w.heap.size, 2, none⟩) HS1.out).trans c2
           have d3 : w2.cell? ⟨w.heap.size, 3, none⟩ = some (.string s) := (hb2.cell (p := ⟨w.heap.size, 3, none⟩) HS1.out).trans c3
           clear hb2)
        | (go_at_call 291
           refine (formOk_wait _ _ _ _).mono ?_
           rintro e w3 ⟨rfl, hb3⟩
           have HB3 : Hid (Below w.heap.size w w3) := HB2.out.trans (hb3.mono (by have := HS2.out; omega))
           have f0 : w3.cell? ⟨w.heap.size, 0, none⟩ = some (.int .i64 k) := (hb3.cell (p := ⟨w.heap.size, 0, none⟩) HS2.out).trans d0
           have f1 : w3.cell? ⟨w.heap.size, 1, none⟩ = some (.int .i64 n) := (hb3.cell (p := ⟨w.heap.size, 1, none⟩) HS2.out).trans d1
           have f2 : w3.cell? ⟨w.heap.size, 2, none⟩ = some (.int .i64 m) := (hb3.cell (p := ⟨w.heap.size, 2, none⟩) HS2.out).trans d2
           have f3 : w3.cell? ⟨w.heap.size, 3, none⟩ = some (.string s) := (hb3.cell (p := ⟨w.heap.size, 3, none⟩) HS2.out).trans d3
           clear hb3))))
      | (exact absurd rfl (by assumption))
    all_goals go_wp2
    all_goals go_ret
    all_goals exact ⟨ret_bool (by rw [HO.out]; simp [hem]), HB2.out⟩
  have hem : emptyB s = true := by simp [emptyB, hes]
  go_wp2_with fail
  first
    | (go_region_with
    ((first
      | (go_at_call 317
         refine (asOp_wait _ _ _ _).mono ?_
         rintro e w2 ⟨rfl, hb2⟩
         have hb2 : Below w1.heap.size w1 w2 := below_undrew hb2
         have HB2 : Hid (Below w.heap.size w w2) := HB1.out.trans (hb2.mono (by have := HS1.out; show w.heap.size ≤ w1.heap.size; omega))
         have HS2 : Hid (w.heap.size < w2.heap.size) := by have h1 := HS1.out; have h2 : w1.heap.size ≤ w2.heap.size := hb2.size; exact Nat.lt_of_lt_of_le h1 h2
         have d0 : w2.cell? ⟨w.heap.size, 0, none⟩ = some (.int .i64 k) := (hb2.cell (p := ⟨w.heap.size, 0, none⟩) HS1.out).trans c0
         have d1 : w2.cell? ⟨w.heap.size, 1, none⟩ = some (.int .i64 n) := (hb2.cell (p := ⟨w.heap.size, 1, none⟩) HS1.out).trans c1
         have d2 : w2.cell? ⟨w.heap.size, 2, none⟩ = some (.int .i64 m) := (hb2.cell (p := ⟨w.heap.size, 2, none⟩) HS1.out).trans c2
         have d3 : w2.cell? ⟨w.heap.size, 3, none⟩ = some (.string s) := (hb2.cell (p := ⟨w.heap.size, 3, none⟩) HS1.out).trans c3
         clear hb2)
      | (go_at_call 291
         refine (formOk_wait _ _ _ _).mono ?_
         rintro e w3 ⟨rfl, hb3⟩
         have HB3 : Hid (Below w.heap.size w w3) := HB2.out.trans (hb3.mono (by have := HS2.out; omega))
         have f0 : w3.cell? ⟨w.heap.size, 0, none⟩ = some (.int .i64 k) := (hb3.cell (p := ⟨w.heap.size, 0, none⟩) HS2.out).trans d0
         have f1 : w3.cell? ⟨w.heap.size, 1, none⟩ = some (.int .i64 n) := (hb3.cell (p := ⟨w.heap.size, 1, none⟩) HS2.out).trans d1
         have f2 : w3.cell? ⟨w.heap.size, 2, none⟩ = some (.int .i64 m) := (hb3.cell (p := ⟨w.heap.size, 2, none⟩) HS2.out).trans d2
         have f3 : w3.cell? ⟨w.heap.size, 3, none⟩ = some (.string s) := (hb3.cell (p := ⟨w.heap.size, 3, none⟩) HS2.out).trans d3
         clear hb3))))
    | (exact absurd rfl (by assumption))
  all_goals go_wp2
  all_goals go_ret
  all_goals exact ⟨ret_bool (by rw [HO.out]; simp_all), HB3.out⟩
theorem implOp_send (k n m : Int) (s : ByteArray) (w : World) (hs : s.size ≤ 1048576) (hk : k = 8) :
    Calls Tryz.prog 287 #[.agg #[.int .i64 k, .int .i64 n, .int .i64 m, .string s]] w fun e w' => e = .returned (.bool (opB k n m s)) ∧ Below w.heap.size w w' := by
  have HO : Hid (opB k n m s = (inB n 1 1000 && inB m (-1) 1000 && plainB s)) := opB_send hk
  have HK : Hid (k = 8) := hk
  clear hk
  go_enter Tryz.func287, Tryz.ntmps287
  go_wp2_with fail
  refine (formOf_send k n m s _ HK.out).mono ?_
  rintro e w1 ⟨rfl, hb1⟩
  have c0 : w1.cell? ⟨w.heap.size, 0, none⟩ = some (.int .i64 k) := cells_below hb1 0
  have c1 : w1.cell? ⟨w.heap.size, 1, none⟩ = some (.int .i64 n) := cells_below hb1 1
  have c2 : w1.cell? ⟨w.heap.size, 2, none⟩ = some (.int .i64 m) := cells_below hb1 2
  have c3 : w1.cell? ⟨w.heap.size, 3, none⟩ = some (.string s) := cells_below hb1 3
  have HB1 : Hid (Below w.heap.size w w1) := ((Below.refl _ _).alloc (Nat.le_refl _) _).trans (hb1.mono (by simp))
  have HS1 : Hid (w.heap.size < w1.heap.size) := by have := hb1.size; simp only [World.size_alloc] at this; exact this
  clear hb1
  go_wp2_with fail
  first
    | (go_region_with
    ((first
      | (go_at_call 318
         refine (asOp_send _ _ _ _ _).mono ?_
         rintro e w2 ⟨rfl, hb2⟩
         have hb2 : Below w1.heap.size w1 w2 := below_undrew hb2
         have HB2 : Hid (Below w.heap.size w w2) := HB1.out.trans (hb2.mono (by have := HS1.out; show w.heap.size ≤ w1.heap.size; omega))
         have HS2 : Hid (w.heap.size < w2.heap.size) := by have h1 := HS1.out; have h2 : w1.heap.size ≤ w2.heap.size := hb2.size; exact Nat.lt_of_lt_of_le h1 h2
         have d0 : w2.cell? ⟨w.heap.size, 0, none⟩ = some (.int .i64 k) := (hb2.cell (p := ⟨w.heap.size, 0, none⟩) HS1.out).trans c0
         have d1 : w2.cell? ⟨w.heap.size, 1, none⟩ = some (.int .i64 n) := (hb2.cell (p := ⟨w.heap.size, 1, none⟩) HS1.out).trans c1
         have d2 : w2.cell? ⟨w.heap.size, 2, none⟩ = some (.int .i64 m) := (hb2.cell (p := ⟨w.heap.size, 2, none⟩) HS1.out).trans c2
         have d3 : w2.cell? ⟨w.heap.size, 3, none⟩ = some (.string s) := (hb2.cell (p := ⟨w.heap.size, 3, none⟩) HS1.out).trans c3
         clear hb2)
      | (go_at_call 291
         refine (formOk_send _ _ _ _ _ hs).mono ?_
         rintro e w3 ⟨rfl, hb3⟩
         have HB3 : Hid (Below w.heap.size w w3) := HB2.out.trans (hb3.mono (by have := HS2.out; omega))
         have f0 : w3.cell? ⟨w.heap.size, 0, none⟩ = some (.int .i64 k) := (hb3.cell (p := ⟨w.heap.size, 0, none⟩) HS2.out).trans d0
         have f1 : w3.cell? ⟨w.heap.size, 1, none⟩ = some (.int .i64 n) := (hb3.cell (p := ⟨w.heap.size, 1, none⟩) HS2.out).trans d1
         have f2 : w3.cell? ⟨w.heap.size, 2, none⟩ = some (.int .i64 m) := (hb3.cell (p := ⟨w.heap.size, 2, none⟩) HS2.out).trans d2
         have f3 : w3.cell? ⟨w.heap.size, 3, none⟩ = some (.string s) := (hb3.cell (p := ⟨w.heap.size, 3, none⟩) HS2.out).trans d3
         clear hb3))))
    | (exact absurd rfl (by assumption))
  all_goals go_wp2
  all_goals go_ret
  all_goals exact ⟨ret_bool (by rw [HO.out]), HB3.out⟩
theorem implOp_text (k n m : Int) (s : ByteArray) (w : World) (hs : s.size ≤ 1048576) (hk : isText k) :
    Calls Tryz.prog 287 #[.agg #[.int .i64 k, .int .i64 n, .int .i64 m, .string s]] w fun e w' => e = .returned (.bool (opB k n m s)) ∧ Below w.heap.size w w' := by
  have HO : Hid (opB k n m s = (inB n 1 1000 && decide (m = 0) && plainB s)) := opB_text hk
  have HK : Hid (isText k) := hk
  clear hk
  go_enter Tryz.func287, Tryz.ntmps287
  go_wp2_with fail
  refine (formOf_text k n m s _ HK.out).mono ?_
  rintro e w1 ⟨rfl, hb1⟩
  have c0 : w1.cell? ⟨w.heap.size, 0, none⟩ = some (.int .i64 k) := cells_below hb1 0
  have c1 : w1.cell? ⟨w.heap.size, 1, none⟩ = some (.int .i64 n) := cells_below hb1 1
  have c2 : w1.cell? ⟨w.heap.size, 2, none⟩ = some (.int .i64 m) := cells_below hb1 2
  have c3 : w1.cell? ⟨w.heap.size, 3, none⟩ = some (.string s) := cells_below hb1 3
  have HB1 : Hid (Below w.heap.size w w1) := ((Below.refl _ _).alloc (Nat.le_refl _) _).trans (hb1.mono (by simp))
  have HS1 : Hid (w.heap.size < w1.heap.size) := by have := hb1.size; simp only [World.size_alloc] at this; exact this
  clear hb1
  by_cases hm : m = 0
  rotate_left
  · have hm' : ¬ 0 = m := fun h => hm h.symm
    go_wp2_with fail
    first
      | (go_region_with
      ((first
        | (go_at_call 319
           refine (asOp_text _ _ _ _).mono ?_
           rintro e w2 ⟨rfl, hb2⟩
           have hb2 : Below w1.heap.size w1 w2 := below_undrew hb2
           have HB2 : Hid (Below w.heap.size w w2) := HB1.out.trans (hb2.mono (by have := HS1.out; show w.heap.size ≤ w1.heap.size; omega))
           have HS2 : Hid (w.heap.size < w2.heap.size) := by have h1 := HS1.out; have h2 : w1.heap.size ≤ w2.heap.size := hb2.size; exact Nat.lt_of_lt_of_le h1 h2
           have d0 : w2.cell? ⟨w.heap.size, 0, none⟩ = some (.int .i64 k) := (hb2.cell (p := ⟨w.heap.size, 0, none⟩) HS1.out).trans c0
           have d1 : w2.cell? ⟨w.heap.size, 1, none⟩ = some (.int .i64 n) := (hb2.cell (p := ⟨w.heap.size, 1, none⟩) HS1.out).trans c1
           have d2 : w2.cell? ⟨w.heap.size, 2, none⟩ = some (.int .i64 m) := (hb2.cell (p := ⟨w.heap.size, 2, none⟩) HS1.out).trans c2
           have d3 : w2.cell? ⟨w.heap.size, 3, none⟩ = some (.string s) := (hb2.cell (p := ⟨w.heap.size, 3, none⟩) HS1.out).trans c3
           clear hb2)
        | (go_at_call 291
           refine (formOk_text _ _ _ _ hs).mono ?_
           rintro e w3 ⟨rfl, hb3⟩
           have HB3 : Hid (Below w.heap.size w w3) := HB2.out.trans (hb3.mono (by have := HS2.out; omega))
           have f0 : w3.cell? ⟨w.heap.size, 0, none⟩ = some (.int .i64 k) := (hb3.cell (p := ⟨w.heap.size, 0, none⟩) HS2.out).trans d0
           have f1 : w3.cell? ⟨w.heap.size, 1, none⟩ = some (.int .i64 n) := (hb3.cell (p := ⟨w.heap.size, 1, none⟩) HS2.out).trans d1
           have f2 : w3.cell? ⟨w.heap.size, 2, none⟩ = some (.int .i64 m) := (hb3.cell (p := ⟨w.heap.size, 2, none⟩) HS2.out).trans d2
           have f3 : w3.cell? ⟨w.heap.size, 3, none⟩ = some (.string s) := (hb3.cell (p := ⟨w.heap.size, 3, none⟩) HS2.out).trans d3
           clear hb3))))
      | (exact absurd rfl (by assumption))
    all_goals go_wp2
    all_goals go_ret
    all_goals exact ⟨ret_bool (by rw [HO.out]; simp [hm]), HB2.out⟩
  subst hm
  go_wp2_with fail
  first
    | (go_region_with
    ((first
      | (go_at_call 319
         refine (asOp_text _ _ _ _).mono ?_
         rintro e w2 ⟨rfl, hb2⟩
         have hb2 : Below w1.heap.size w1 w2 := below_undrew hb2
         have HB2 : Hid (Below w.heap.size w w2) := HB1.out.trans (hb2.mono (by have := HS1.out; show w.heap.size ≤ w1.heap.size; omega))
         have HS2 : Hid (w.heap.size < w2.heap.size) := by have h1 := HS1.out; have h2 : w1.heap.size ≤ w2.heap.size := hb2.size; exact Nat.lt_of_lt_of_le h1 h2
         have d0 : w2.cell? ⟨w.heap.size, 0, none⟩ = some (.int .i64 k) := (hb2.cell (p := ⟨w.heap.size, 0, none⟩) HS1.out).trans c0
         have d1 : w2.cell? ⟨w.heap.size, 1, none⟩ = some (.int .i64 n) := (hb2.cell (p := ⟨w.heap.size, 1, none⟩) HS1.out).trans c1
         have d2 : w2.cell? ⟨w.heap.size, 2, none⟩ = some (.int .i64 0) := (hb2.cell (p := ⟨w.heap.size, 2, none⟩) HS1.out).trans c2
         have d3 : w2.cell? ⟨w.heap.size, 3, none⟩ = some (.string s) := (hb2.cell (p := ⟨w.heap.size, 3, none⟩) HS1.out).trans c3
         clear hb2)
      | (go_at_call 291
         refine (formOk_text _ _ _ _ hs).mono ?_
         rintro e w3 ⟨rfl, hb3⟩
         have HB3 : Hid (Below w.heap.size w w3) := HB2.out.trans (hb3.mono (by have := HS2.out; omega))
         have f0 : w3.cell? ⟨w.heap.size, 0, none⟩ = some (.int .i64 k) := (hb3.cell (p := ⟨w.heap.size, 0, none⟩) HS2.out).trans d0
         have f1 : w3.cell? ⟨w.heap.size, 1, none⟩ = some (.int .i64 n) := (hb3.cell (p := ⟨w.heap.size, 1, none⟩) HS2.out).trans d1
         have f2 : w3.cell? ⟨w.heap.size, 2, none⟩ = some (.int .i64 0) := (hb3.cell (p := ⟨w.heap.size, 2, none⟩) HS2.out).trans d2
         have f3 : w3.cell? ⟨w.heap.size, 3, none⟩ = some (.string s) := (hb3.cell (p := ⟨w.heap.size, 3, none⟩) HS2.out).trans d3
         clear hb3))))
    | (exact absurd rfl (by assumption))
  all_goals go_wp2
  all_goals go_ret
  all_goals exact ⟨ret_bool (by rw [HO.out]; simp_all), HB3.out⟩
theorem implOp_loop (k n m : Int) (s : ByteArray) (w : World) (hk : k = 17) :
    Calls Tryz.prog 287 #[.agg #[.int .i64 k, .int .i64 n, .int .i64 m, .string s]] w fun e w' => e = .returned (.bool (opB k n m s)) ∧ Below w.heap.size w w' := by
  have HO : Hid (opB k n m s = (decide (n = 0) && decide (m = 0) && emptyB s)) := opB_loop hk
  have HK : Hid (k = 17) := hk
  clear hk
  go_enter Tryz.func287, Tryz.ntmps287
  go_wp2_with fail
  refine (formOf_loop k n m s _ HK.out).mono ?_
  rintro e w1 ⟨rfl, hb1⟩
  have c0 : w1.cell? ⟨w.heap.size, 0, none⟩ = some (.int .i64 k) := cells_below hb1 0
  have c1 : w1.cell? ⟨w.heap.size, 1, none⟩ = some (.int .i64 n) := cells_below hb1 1
  have c2 : w1.cell? ⟨w.heap.size, 2, none⟩ = some (.int .i64 m) := cells_below hb1 2
  have c3 : w1.cell? ⟨w.heap.size, 3, none⟩ = some (.string s) := cells_below hb1 3
  have HB1 : Hid (Below w.heap.size w w1) := ((Below.refl _ _).alloc (Nat.le_refl _) _).trans (hb1.mono (by simp))
  have HS1 : Hid (w.heap.size < w1.heap.size) := by have := hb1.size; simp only [World.size_alloc] at this; exact this
  clear hb1
  by_cases hn : n = 0
  rotate_left
  · have hn' : ¬ 0 = n := fun h => hn h.symm
    go_wp2_with fail
    first
      | (go_region_with
      ((first
        | (go_at_call 320
           refine (asOp_bare _ _).mono ?_
           rintro e w2 ⟨rfl, hb2⟩
           have hb2 : Below w1.heap.size w1 w2 := below_undrew hb2
           have HB2 : Hid (Below w.heap.size w w2) := HB1.out.trans (hb2.mono (by have := HS1.out; show w.heap.size ≤ w1.heap.size; omega))
           have HS2 : Hid (w.heap.size < w2.heap.size) := by have h1 := HS1.out; have h2 : w1.heap.size ≤ w2.heap.size := hb2.size; exact Nat.lt_of_lt_of_le h1 h2
           have d0 : w2.cell? ⟨w.heap.size, 0, none⟩ = some (.int .i64 k) := (hb2.cell (p := ⟨w.heap.size, 0, none⟩) HS1.out).trans c0
           have d1 : w2.cell? ⟨w.heap.size, 1, none⟩ = some (.int .i64 n) := (hb2.cell (p := ⟨w.heap.size, 1, none⟩) HS1.out).trans c1
           have d2 : w2.cell? ⟨w.heap.size, 2, none⟩ = some (.int .i64 m) := (hb2.cell (p := ⟨w.heap.size, 2, none⟩) HS1.out).trans c2
           have d3 : w2.cell? ⟨w.heap.size, 3, none⟩ = some (.string s) := (hb2.cell (p := ⟨w.heap.size, 3, none⟩) HS1.out).trans c3
           clear hb2)
        | (go_at_call 291
           refine (formOk_bare _ _).mono ?_
           rintro e w3 ⟨rfl, hb3⟩
           have HB3 : Hid (Below w.heap.size w w3) := HB2.out.trans (hb3.mono (by have := HS2.out; omega))
           have f0 : w3.cell? ⟨w.heap.size, 0, none⟩ = some (.int .i64 k) := (hb3.cell (p := ⟨w.heap.size, 0, none⟩) HS2.out).trans d0
           have f1 : w3.cell? ⟨w.heap.size, 1, none⟩ = some (.int .i64 n) := (hb3.cell (p := ⟨w.heap.size, 1, none⟩) HS2.out).trans d1
           have f2 : w3.cell? ⟨w.heap.size, 2, none⟩ = some (.int .i64 m) := (hb3.cell (p := ⟨w.heap.size, 2, none⟩) HS2.out).trans d2
           have f3 : w3.cell? ⟨w.heap.size, 3, none⟩ = some (.string s) := (hb3.cell (p := ⟨w.heap.size, 3, none⟩) HS2.out).trans d3
           clear hb3))))
      | (exact absurd rfl (by assumption))
    all_goals go_wp2
    all_goals go_ret
    all_goals exact ⟨ret_bool (by rw [HO.out]; simp [hn]), HB2.out⟩
  subst hn
  by_cases hm : m = 0
  rotate_left
  · have hm' : ¬ 0 = m := fun h => hm h.symm
    go_wp2_with fail
    first
      | (go_region_with
      ((first
        | (go_at_call 320
           refine (asOp_bare _ _).mono ?_
           rintro e w2 ⟨rfl, hb2⟩
           have hb2 : Below w1.heap.size w1 w2 := below_undrew hb2
           have HB2 : Hid (Below w.heap.size w w2) := HB1.out.trans (hb2.mono (by have := HS1.out; show w.heap.size ≤ w1.heap.size; omega))
           have HS2 : Hid (w.heap.size < w2.heap.size) := by have h1 := HS1.out; have h2 : w1.heap.size ≤ w2.heap.size := hb2.size; exact Nat.lt_of_lt_of_le h1 h2
           have d0 : w2.cell? ⟨w.heap.size, 0, none⟩ = some (.int .i64 k) := (hb2.cell (p := ⟨w.heap.size, 0, none⟩) HS1.out).trans c0
           have d1 : w2.cell? ⟨w.heap.size, 1, none⟩ = some (.int .i64 0) := (hb2.cell (p := ⟨w.heap.size, 1, none⟩) HS1.out).trans c1
           have d2 : w2.cell? ⟨w.heap.size, 2, none⟩ = some (.int .i64 m) := (hb2.cell (p := ⟨w.heap.size, 2, none⟩) HS1.out).trans c2
           have d3 : w2.cell? ⟨w.heap.size, 3, none⟩ = some (.string s) := (hb2.cell (p := ⟨w.heap.size, 3, none⟩) HS1.out).trans c3
           clear hb2)
        | (go_at_call 291
           refine (formOk_bare _ _).mono ?_
           rintro e w3 ⟨rfl, hb3⟩
           have HB3 : Hid (Below w.heap.size w w3) := HB2.out.trans (hb3.mono (by have := HS2.out; omega))
           have f0 : w3.cell? ⟨w.heap.size, 0, none⟩ = some (.int .i64 k) := (hb3.cell (p := ⟨w.heap.size, 0, none⟩) HS2.out).trans d0
           have f1 : w3.cell? ⟨w.heap.size, 1, none⟩ = some (.int .i64 0) := (hb3.cell (p := ⟨w.heap.size, 1, none⟩) HS2.out).trans d1
           have f2 : w3.cell? ⟨w.heap.size, 2, none⟩ = some (.int .i64 m) := (hb3.cell (p := ⟨w.heap.size, 2, none⟩) HS2.out).trans d2
           have f3 : w3.cell? ⟨w.heap.size, 3, none⟩ = some (.string s) := (hb3.cell (p := ⟨w.heap.size, 3, none⟩) HS2.out).trans d3
           clear hb3))))
      | (exact absurd rfl (by assumption))
    all_goals go_wp2
    all_goals go_ret
    all_goals exact ⟨ret_bool (by rw [HO.out]; simp [hm]), HB2.out⟩
  subst hm
  by_cases hes : s.toList = []
  rotate_left
  · have hes' : ¬ [] = s.toList := fun h => hes h.symm
    have hem : emptyB s = false := by simp [emptyB, hes]
    go_wp2_with fail
    first
      | (go_region_with
      ((first
        | (go_at_call 320
           refine (asOp_bare _ _).mono ?_
           rintro e w2 ⟨rfl, hb2⟩
           have hb2 : Below w1.heap.size w1 w2 := below_undrew hb2
           have HB2 : Hid (Below w.heap.size w w2) := HB1.out.trans (hb2.mono (by have := HS1.out; show w.heap.size ≤ w1.heap.size; omega))
           have HS2 : Hid (w.heap.size < w2.heap.size) := by have h1 := HS1.out; have h2 : w1.heap.size ≤ w2.heap.size := hb2.size; exact Nat.lt_of_lt_of_le h1 h2
           have d0 : w2.cell? ⟨w.heap.size, 0, none⟩ = some (.int .i64 k) := (hb2.cell (p := ⟨w.heap.size, 0, none⟩) HS1.out).trans c0
           have d1 : w2.cell? ⟨w.heap.size, 1, none⟩ = some (.int .i64 0) := (hb2.cell (p := ⟨w.heap.size, 1, none⟩) HS1.out).trans c1
           have d2 : w2.cell? ⟨w.heap.size, 2, none⟩ = some (.int .i64 0) := (hb2.cell (p := ⟨w.heap.size, 2, none⟩) HS1.out).trans c2
           have d3 : w2.cell? ⟨w.heap.size, 3, none⟩ = some (.string s) := (hb2.cell (p := ⟨w.heap.size, 3, none⟩) HS1.out).trans c3
           clear hb2)
        | (go_at_call 291
           refine (formOk_bare _ _).mono ?_
           rintro e w3 ⟨rfl, hb3⟩
           have HB3 : Hid (Below w.heap.size w w3) := HB2.out.trans (hb3.mono (by have := HS2.out; omega))
           have f0 : w3.cell? ⟨w.heap.size, 0, none⟩ = some (.int .i64 k) := (hb3.cell (p := ⟨w.heap.size, 0, none⟩) HS2.out).trans d0
           have f1 : w3.cell? ⟨w.heap.size, 1, none⟩ = some (.int .i64 0) := (hb3.cell (p := ⟨w.heap.size, 1, none⟩) HS2.out).trans d1
           have f2 : w3.cell? ⟨w.heap.size, 2, none⟩ = some (.int .i64 0) := (hb3.cell (p := ⟨w.heap.size, 2, none⟩) HS2.out).trans d2
           have f3 : w3.cell? ⟨w.heap.size, 3, none⟩ = some (.string s) := (hb3.cell (p := ⟨w.heap.size, 3, none⟩) HS2.out).trans d3
           clear hb3))))
      | (exact absurd rfl (by assumption))
    all_goals go_wp2
    all_goals go_ret
    all_goals exact ⟨ret_bool (by rw [HO.out]; simp [hem]), HB2.out⟩
  have hem : emptyB s = true := by simp [emptyB, hes]
  go_wp2_with fail
  first
    | (go_region_with
    ((first
      | (go_at_call 320
         refine (asOp_bare _ _).mono ?_
         rintro e w2 ⟨rfl, hb2⟩
         have hb2 : Below w1.heap.size w1 w2 := below_undrew hb2
         have HB2 : Hid (Below w.heap.size w w2) := HB1.out.trans (hb2.mono (by have := HS1.out; show w.heap.size ≤ w1.heap.size; omega))
         have HS2 : Hid (w.heap.size < w2.heap.size) := by have h1 := HS1.out; have h2 : w1.heap.size ≤ w2.heap.size := hb2.size; exact Nat.lt_of_lt_of_le h1 h2
         have d0 : w2.cell? ⟨w.heap.size, 0, none⟩ = some (.int .i64 k) := (hb2.cell (p := ⟨w.heap.size, 0, none⟩) HS1.out).trans c0
         have d1 : w2.cell? ⟨w.heap.size, 1, none⟩ = some (.int .i64 0) := (hb2.cell (p := ⟨w.heap.size, 1, none⟩) HS1.out).trans c1
         have d2 : w2.cell? ⟨w.heap.size, 2, none⟩ = some (.int .i64 0) := (hb2.cell (p := ⟨w.heap.size, 2, none⟩) HS1.out).trans c2
         have d3 : w2.cell? ⟨w.heap.size, 3, none⟩ = some (.string s) := (hb2.cell (p := ⟨w.heap.size, 3, none⟩) HS1.out).trans c3
         clear hb2)
      | (go_at_call 291
         refine (formOk_bare _ _).mono ?_
         rintro e w3 ⟨rfl, hb3⟩
         have HB3 : Hid (Below w.heap.size w w3) := HB2.out.trans (hb3.mono (by have := HS2.out; omega))
         have f0 : w3.cell? ⟨w.heap.size, 0, none⟩ = some (.int .i64 k) := (hb3.cell (p := ⟨w.heap.size, 0, none⟩) HS2.out).trans d0
         have f1 : w3.cell? ⟨w.heap.size, 1, none⟩ = some (.int .i64 0) := (hb3.cell (p := ⟨w.heap.size, 1, none⟩) HS2.out).trans d1
         have f2 : w3.cell? ⟨w.heap.size, 2, none⟩ = some (.int .i64 0) := (hb3.cell (p := ⟨w.heap.size, 2, none⟩) HS2.out).trans d2
         have f3 : w3.cell? ⟨w.heap.size, 3, none⟩ = some (.string s) := (hb3.cell (p := ⟨w.heap.size, 3, none⟩) HS2.out).trans d3
         clear hb3))))
    | (exact absurd rfl (by assumption))
  all_goals go_wp2
  all_goals go_ret
  all_goals exact ⟨ret_bool (by rw [HO.out]; simp_all), HB3.out⟩
theorem implOp_none (k n m : Int) (s : ByteArray) (w : World) (hk : ¬ (1 ≤ k ∧ k ≤ 17)) :
    Calls Tryz.prog 287 #[.agg #[.int .i64 k, .int .i64 n, .int .i64 m, .string s]] w fun e w' => e = .returned (.bool (opB k n m s)) ∧ Below w.heap.size w w' := by
  rw [opB_none hk]
  go_enter Tryz.func287, Tryz.ntmps287
  go_wp2_with fail
  refine (formOf_none k n m s _ hk).mono ?_
  rintro e w1 ⟨rfl, hb1⟩
  have HB1 : Hid (Below w.heap.size w w1) := ((Below.refl _ _).alloc (Nat.le_refl _) _).trans (hb1.mono (by simp))
  clear hb1
  go_wp2_with fail
  go_quiet (fail)
  go_wp2
  go_ret
  exact ⟨rfl, below_drewN HB1.out _⟩
theorem implOpOk_any (k n m : Int) (s : ByteArray) (w : World) (hs : s.size ≤ 1048576) :
    Calls Tryz.prog 287 #[.agg #[.int .i64 k, .int .i64 n, .int .i64 m, .string s]] w fun e w' => e = .returned (.bool (opB k n m s)) ∧ Below w.heap.size w w' := by
  by_cases h0 : 1 ≤ k ∧ k ≤ 17
  · by_cases h1 : isNum k
    · exact implOp_num k n m s w h1
    by_cases h2 : isWait k
    · exact implOp_wait k n m s w h2
    by_cases h3 : isText k
    · exact implOp_text k n m s w hs h3
    by_cases h4 : k = 8
    · exact implOp_send k n m s w hs h4
    exact implOp_loop k n m s w (by unfold isNum at h1; unfold isWait at h2; unfold isText at h3; omega)
  · exact implOp_none k n m s w h0
end Go.Proofs.YtkbcplnlehdjfaaGreat
