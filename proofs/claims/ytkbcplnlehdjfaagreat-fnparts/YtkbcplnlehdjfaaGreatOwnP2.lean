/- What the proof leans on, part 2. -/
import Derived.Test.YtkbcplnlehdjfaaGreatOwnP1
import Derived.BigQuiet
import Derived.Lib.ItoaNum
import Derived.Deep.RegionHeld3
set_option maxRecDepth 100000
set_option maxHeartbeats 8000000
open Array renaming getElem?_eq_getElem->Qb,getElem?_eq_some_iff->J2
open Bool renaming and_eq_true->J7,not_eq_true'->PR
open Go renaming block_lt_of_cell->Le,bodyPost_ret->KT
open Go.AllReadyH renaming cons->KX,nil->KY
open Go.IntKind renaming wrap_i64->K8
open Go.Proofs.Tryz renaming func213->QL,ntmps213->QM,prog->J3
open Go.RowKit.Below renaming heap_setCell->K6,refl->Kp
open Go.World renaming cell?_of_block->J1
open Int renaming eq_ofNat_of_zero_le->QK
open List renaming mem_filter->L2,mem_map->Lr
open Nat renaming le_refl->Ki,le_trans->LG,lt_of_lt_of_le->Kn,zero_le->Ky
open Option renaming getD_some->Ka,map_some->J9
open Option.some renaming injEq->LF

namespace Go.Proofs.YtkbcplnlehdjfaaGreat
section
open Go.RowKit
def gH (c:UInt8):Bool:=decide (32≤(c.toNat:Int)) && decide ((c.toNat:Int)≤126) && !decide ((c.toNat:Int)=59)
def bw (s:ByteArray):Bool:=decide (s.size≤20) && s.data.toList.all gH
theorem Et (s:ByteArray) (k:Nat) (h:k < s.size):s.data.toList.take (k+1)=s.data.toList.take k ++ [s[k]] :=by
 rw [List.take_succ_eq_append_getElem (by simpa using h)]; rfl
theorem Bv {s:ByteArray} {k:Nat} (h:k < s.size) (ha:(s.data.toList.take k).all gH=true) (hb:gH s[k] =true):(s.data.toList.take (k+1)).all gH=true:=by
 rw [Et s k h,List.all_append,ha]; simp [hb]
theorem D7 {s:ByteArray} {k:Nat} (h:k < s.size) (hb:gH s[k] =false):s.data.toList.all gH=false:=by
 rw [List.all_eq_false];exact ⟨s[k], by rw [show s[k] = s.data.toList[k]'(by simpa using h) from rfl]; exact List.getElem_mem _, by simp [hb]⟩
theorem BA (s:ByteArray) {k:Nat} (h:s.size≤k):s.data.toList.take k=s.data.toList:=List.take_of_length_le (by simpa using h)
theorem xo {c:UInt8} (h:(c.toNat:Int) < 32):gH c=false:=by simp [gH]; omega
theorem uO {c:UInt8} (h:126 < (c.toNat:Int)):gH c=false:=by simp [gH]; omega
theorem uj {c:UInt8} (h:(c.toNat:Int)=59):gH c=false:=by simp [gH]; omega
theorem xR {c:UInt8} (h1: ¬ (c.toNat:Int) < 32) (h2: ¬ 126 < (c.toNat:Int)) (h3: ¬ (c.toNat:Int)=59):gH c=true:=by simp [gH]; omega
theorem jC (s:ByteArray) (w:World) (hs:s.size≤1048576):
  Calls J3 181 #[.string s] w fun e w'=>e= .returned (.bool (bw s))∧w'=w:=by
 go_enter Tryz.func181,Tryz.ntmps181
 go_wp2
 go_loop [3] (fun i=> ∃ k:Nat,k≤s.size∧i= .int .i64 k∧(s.data.toList.take k).all gH=true) (fun i=>s.size - (intOf i).toNat)
 case atStart=>exact ⟨0,Ky _,rfl,rfl⟩
 case round=>
  obtain ⟨k,hk,rfl,hall⟩:=hrel;have HA:Hid ((s.data.toList.take k).all gH=true):=hall;clear hall;by_cases hlt:k < s.size
  ·have HY:Hid (gH s[k] =true→(s.data.toList.take (k+1)).all gH=true):=fun h=>Bv hlt HA.I h
   have HX:Hid (gH s[k] =false→bw s=false):=fun h=>by simp [bw,D7 hlt h]
   by_cases h1:(s[k].toNat:Int) < 32
   ·go_wp2
    go_ret;exact ⟨al (HX.I (xo h1)).symm,rfl⟩
   by_cases h2:126 < (s[k].toNat:Int)
   ·go_wp2
    go_ret;exact ⟨al (HX.I (uO h2)).symm,rfl⟩
   by_cases h3:(s[k].toNat:Int)=59
   ·have h3':((s[k].toNat:Int) == 59)=true:=by simp [h3]
    go_wp2;go_ret;exact ⟨al (HX.I (uj h3)).symm,rfl⟩
   have h3':((s[k].toNat:Int) == 59)=false:=by simp [h3]
   have HB:Hid (gH s[k] =true):=xR h1 h2 h3;go_wp2
   go_round
   case rel=>exact ⟨k+1,by omega,by go_num,HY.I HB.I⟩
   case measure=>simp [intOf]; omega
  ·have HA':Hid (s.data.toList.all gH=true):=by have:=HA.I; rwa [BA s (by omega)] at this
   go_wp2;go_ret;exact ⟨al (by rw [Bool.eq_iff_iff]; simp [bw,HA'.I]; omega),rfl⟩
theorem iM (s:ByteArray) (w:World) (hs:s.size≤1048576):
  Calls J3 285 #[.string s] w fun e w'=>e= .returned (.bool (bw s))∧w'=w:=by
 by_cases hl:20 < s.size
 ·have hl':(20:Int) < (s.size:Int):=by omega
  go_enter Tryz.func285,Tryz.ntmps285
  go_wp2;go_ret;exact ⟨al (by simp [bw]; intro h; omega),rfl⟩
 ·have hl': ¬ (20:Int) < (s.size:Int):=by omega
  go_enter Tryz.func285,Tryz.ntmps285
  go_wp2
  go_loop [9] (fun i=> ∃ k:Nat,k≤s.size∧i= .int .i64 k∧(s.data.toList.take k).all gH=true) (fun i=>s.size - (intOf i).toNat)
  case atStart=>exact ⟨0,Ky _,rfl,rfl⟩
  case round=>
   obtain ⟨k,hk,rfl,hall⟩:=hrel;have HA:Hid ((s.data.toList.take k).all gH=true):=hall;clear hall;by_cases hlt:k < s.size
   ·have HY:Hid (gH s[k] =true→(s.data.toList.take (k+1)).all gH=true):=fun h=>Bv hlt HA.I h
    have HX:Hid (gH s[k] =false→bw s=false):=fun h=>by simp [bw,D7 hlt h]
    by_cases h1:(s[k].toNat:Int) < 32
    ·go_wp2
     go_ret;exact ⟨al (HX.I (xo h1)).symm,rfl⟩
    by_cases h2:126 < (s[k].toNat:Int)
    ·go_wp2
     go_ret;exact ⟨al (HX.I (uO h2)).symm,rfl⟩
    by_cases h3:(s[k].toNat:Int)=59
    ·have h3':((s[k].toNat:Int) == 59)=true:=by simp [h3]
     go_wp2;go_ret;exact ⟨al (HX.I (uj h3)).symm,rfl⟩
    have h3':((s[k].toNat:Int) == 59)=false:=by simp [h3]
    have HB:Hid (gH s[k] =true):=xR h1 h2 h3;go_wp2
    go_round
    case rel=>exact ⟨k+1,by omega,by go_num,HY.I HB.I⟩
    case measure=>simp [intOf]; omega
   ·have HA':Hid (s.data.toList.all gH=true):=by have:=HA.I; rwa [BA s (by omega)] at this
    have hd:decide (s.size≤20)=true:=by simp; omega
    go_wp2;go_ret;exact ⟨al (by simp only [bw,HA'.I,hd]; rfl),rfl⟩
def xe (K N M:Nat→Int) (S:Nat→ByteArray) (j:Nat):Value:=if j % 4=0 then .int .i64 (K (j / 4)) else if j % 4=1 then .int .i64 (N (j / 4)) else if j % 4=2 then .int .i64 (M (j / 4)) else .string (S (j / 4))
theorem opV_0 (K N M:Nat→Int) (S:Nat→ByteArray) (i:Nat):xe K N M S (i * 4)= .int .i64 (K i):=by
 have e:i * 4 % 4=0:=by omega
 have d:i * 4 / 4=i:=by omega
 simp [xe,d]
theorem opV_1 (K N M:Nat→Int) (S:Nat→ByteArray) (i:Nat):xe K N M S (i * 4+1)= .int .i64 (N i):=by
 have e:(i * 4+1) % 4=1:=by omega
 have d:(i * 4+1) / 4=i:=by omega
 simp [xe,e,d]
theorem opV_2 (K N M:Nat→Int) (S:Nat→ByteArray) (i:Nat):xe K N M S (i * 4+2)= .int .i64 (M i):=by
 have e:(i * 4+2) % 4=2:=by omega
 have d:(i * 4+2) / 4=i:=by omega
 simp [xe,e,d]
theorem opV_3 (K N M:Nat→Int) (S:Nat→ByteArray) (i:Nat):xe K N M S (i * 4+3)= .string (S i):=by
 have e:(i * 4+3) % 4=3:=by omega
 have d:(i * 4+3) / 4=i:=by omega
 simp [xe,e,d]
def Ij (n:Int):ByteArray:=⟨(Lib.itoa n).toArray⟩
theorem F7 {n:Int} (h:0≤n):Lib.itoa n=Lib.decDigits n.toNat:=by
 unfold Lib.itoa;rw [if_neg (by omega)]
theorem DX: ∀ (k u:Nat),u < 10 ^ (k+1)→(Lib.decDigits u).length≤k+1
 | 0,u,h=>by rw [Lib.decDigits,dif_pos (by simpa using h)]; simp
 | k+1,u,h=>by
  by_cases h1:u < 10
  ·rw [Lib.decDigits,dif_pos h1]; simp
  ·rw [Lib.decDigits,dif_neg h1]
   have:=DX k (u / 10) (by rw [Nat.pow_succ] at h; omega)
   simp; omega
theorem Fk {n:Int} (h:n≤9999999999):(Lib.decDigits n.toNat).length≤10:=DX 9 _ (by simp; omega)
theorem GP {a n:Int} {s:ByteArray} (h10:10≤a) (h:Lib.decDigits a.toNat ++ s.data.toList=Lib.decDigits n.toNat):
  Lib.decDigits (a / 10).toNat ++ ((⟨#[UInt8.ofNat (48+a % 10).toNat]⟩:ByteArray) ++ s).data.toList=Lib.decDigits n.toNat:=by
 rw [← h,Lib.decDigits.eq_def a.toNat,dif_neg (by omega)];have e1:(a / 10).toNat=a.toNat / 10:=by omega
 have e2:(48+a % 10).toNat=48+a.toNat % 10:=by omega
 simp [e1,e2,ByteArray.data_append]
theorem Gx (W:World) (c:Int):(convert 22 9 (.slice (some ⟨W.heap.size,0,none⟩) 1 1)).run J3 (W.alloc (.cells #[.int .u8 c] 5))= .ok (.string ⟨#[UInt8.ofNat c.toNat]⟩) (W.alloc (.cells #[.int .u8 c] 5)):=by
 rw [run_convert_bytes_string _ 22 9 5 _ 1 1 Tryz.underlying22 Tryz.underlying5 Tryz.underlying9];rw [run_bytesToString _ ⟨W.heap.size,0,none⟩ 1 1 [c] (by simp [go_sem])];rfl
end
section
open Go
section
variable {P:Program} {ops:Array Oper} {Q:Exit→Act→World→Prop} {md:Region.Mode} {S:World→Prop}
def zK (l:Array Bool):Nat:=l.toList.count false
theorem cX {l:Array Bool} {i:Nat} (h:i∈Region.ready md ops l):l[i]? =some false:=by
 simp only [Region.ready,L2,J7,PR] at h;have h1:=h.2.1;rw [Array.getD_eq_getD_getElem?] at h1;cases h2:l[i]? with
 | none=>rw [h2] at h1; simp at h1
 | some b=>rw [h2] at h1; simp at h1; rw [h1]
def D8 (md:Region.Mode) (ops:Array Oper) (i:Nat):List Nat:=((ops[i]?).map fun o=>(o.after.toList.filter fun e=>Region.binds md e).map fun e=>e.on).getD []
theorem hF {l:Array Bool} {i:Nat} (ns:List Nat) (h:i∈Region.ready md ops l) (hn:D8 md ops i=ns): ∀ j∈ns,l[j]? =some true:=fun j hj=>by
 simp only [Region.ready,L2,J7] at h;have h1:=h.2.2;subst hn;unfold D8 at hj;cases ho:ops[i]? with
 | none=>rw [ho] at hj; simp at hj
 | some o=>
  rw [ho] at hj h1;simp only [J9,Ka,Lr,L2] at hj h1;obtain ⟨e,⟨he,hb⟩,rfl⟩:=hj;rw [Array.all_eq_true_iff_forall_mem] at h1;have h2:=h1 e (by simpa using he);simp only [hb,Bool.not_true,Bool.false_or,Array.getD_eq_getD_getElem?] at h2;cases h3:l[e.on]? with
  | none=>rw [h3] at h2; simp at h2
  | some b=>rw [h3] at h2; simp at h2; rw [h2]
theorem jW {l:Array Bool} {i:Nat} (ns:List Nat) (hi:decide (i < ops.size)=true) (hn:D8 md ops i=ns) (hf:l[i]? =some false) (hd: ∀ j∈ns,l[j]? =some true):i∈Region.ready md ops l:=by
 have hi':=of_decide_eq_true hi;simp only [Region.ready,L2,List.mem_range,J7,PR,Array.getD_eq_getD_getElem?,hf,Ka,true_and];refine ⟨hi',?_⟩;subst hn;rw [Qb hi'] at *;simp only [D8,Qb hi',J9,Ka] at hd ⊢;rw [Array.all_eq_true_iff_forall_mem];intro e he;cases hb:Region.binds md e with
 | false=>simp
 | true=>
  have:=hd e.on (Lr.2 ⟨e,L2.2 ⟨by simpa using he,hb⟩,rfl⟩)
  simp [this]
theorem count_set: ∀ {q:List Bool} {i:Nat},q[i]? =some false→(q.set i true).count false+1=q.count false
 | [],_,h=>by simp at h
 | b :: r,0,h=>by
  simp only [List.getElem?_cons_zero,LF] at h;subst h;simp
 | b :: r,i+1,h=>by
  simp only [List.getElem?_cons_succ] at h
  have:=count_set h
  simp only [List.set_cons_succ,List.count_cons];omega
theorem vr {l:Array Bool} {i:Nat} (h:l[i]? =some false):zK (l.setIfInBounds i true)+1=zK l:=by
 unfold zK;rw [Array.toList_setIfInBounds];exact count_set (by rw [Array.getElem?_toList]; exact h)
theorem tk (i:Nat) {oi:Oper} {v:Value} {fuel:Nat} {RV:Array Bool} {a:Act} {w:World} {d:Tmp} (hy: ∀ w,S w→(execOp a.eval oi).run P w= .ok (.value v) w) (hS:S w)
  (h:wpAnyH P md ops Q S fuel (RV.setIfInBounds i true) (a.put (some d) v) w) (hi:ops[i]? =some oi:=by rfl) (hd:oi.dst=some d:=by rfl) (h1:Region.noSelect ops=true:=by kernel_rfl) (h2:Region.free md ops RV i=true:=by kernel_rfl) (h3:(Region.ready md ops RV).contains i=true:=by kernel_rfl)
  (hQ: ∀ c a w,Q (.panic c) (a.put (some d) v) w→Q (.panic c) a w:=by exact fun _ _ _ h=>h) (hw:Region.wanted oi (yielded ops a.tmps)=true:=by kernel_rfl):wpAnyH P md ops Q S (fuel+1) RV a w:=by
 rw [← hd] at h hQ;exact wpAnyH_take (i:=i) hi h1 h2 h3 hQ (.inl ⟨hw,hy⟩) hS h
theorem tt (i:Nat) {oi:Oper} {v:Value} {fuel:Nat} {RV:Array Bool} {a a':Act} {w:World} {d:Tmp} (hS:S w) (h:wpAnyH P md ops Q S fuel (RV.setIfInBounds i true) a' w) (hi:ops[i]? =some oi:=by rfl) (hd:oi.dst=some d:=by rfl)
  (hy: ∀ w,S w→(execOp a.eval oi).run P w= .ok (.value v) w:=by intro w0 hS0; go_simp; try with_reducible rfl) (h1:Region.noSelect ops=true:=by kernel_rfl) (h2:Region.free md ops RV i=true:=by kernel_rfl) (h3:(Region.ready md ops RV).contains i=true:=by kernel_rfl)
  (hQ: ∀ c a w,Q (.panic c) (a.put (some d) v) w→Q (.panic c) a w:=by exact fun _ _ _ h=>h) (hw:Region.wanted oi (yielded ops a.tmps)=true:=by kernel_rfl) (ha:a.put (some d) v=a':=by simp only [pt,sb,s0,s1]; rfl):wpAnyH P md ops Q S (fuel+1) RV a w:=
 tk i hy hS (by rw [ha]; exact h) hi hd h1 h2 h3 hQ hw
theorem L7 (i:Nat) {o:Oper} {fuel:Nat} {RV:Array Bool} {a:Act} {w:World} (h: ∀ K':Act→World→Prop,Shut (∀ a w,S w→(S w→wpAnyH P md ops Q S fuel (RV.setIfInBounds i true) a w)→K' a w)→Oper.wp P o a w K' Q)
  (hr:Region.ready md ops RV= [i] :=by kernel_rfl) (ho:ops.toList[i]? =some o:=by rfl) (hw:Region.wanted o (yielded ops a.tmps)=true:=by kernel_rfl):wpAnyH P md ops Q S (fuel+1) RV a w:=
 wpAnyH_ready hr (by simp) (KX (by rw [← ho]; simp) (fun K' hK=>by rw [if_pos hw]; exact h K' hK) KY)
theorem ln {i:Nat} {o:Oper} {K:Act→World→Prop} {a:Act} {w:World} (ho:ops[i]? =some o) (hw:Region.wanted o (yielded ops a.tmps)=true)
  (h: ∀ K':Act→World→Prop,Shut (∀ a w,K a w→K' a w)→Oper.wp P o a w K' Q):wpOp P ops Q i K a w:=
 wpOp_step ho fun K' hK=>by
  rw [if_pos hw];exact h K' hK
theorem wild (Inv:Array Bool→Act→World→Prop) (hS: ∀ l a w,Inv l a w→S w) (hstep: ∀ l a w,Inv l a w→ ∀ i∈Region.ready md ops l,wpOp P ops Q i (Inv (l.setIfInBounds i true)) a w)
  (hend: ∀ l a w,Inv l a w→Region.ready md ops l= [] →Q .normal a w): ∀ (fuel:Nat) (l:Array Bool) (a:Act) (w:World),Inv l a w→zK l≤fuel→wpAnyH P md ops Q S fuel l a w
 | 0,l,a,w,h,hu=>by
  have h0:Region.ready md ops l= [] :=List.eq_nil_iff_forall_not_mem.2 fun i hi=>by
   have:=vr (cX hi)
   omega
  exact ⟨h0,hend _ _ _ h h0⟩
 | fuel+1,l,a,w,h,hu=>⟨fun h0=>hend _ _ _ h h0,fun i hi=>wpOp_mono (fun a' w' h'=>⟨hS _ _ _ h',wild Inv hS hstep hend fuel _ a' w' h' (by have:=vr (cX hi); omega)⟩) (hstep _ _ _ h i hi)⟩
end
section
variable {P:Program} {md:Region.Mode} {ops:Array Oper} {Q:Exit→Act→World→Prop} {S:World→Prop}
theorem ty {oi:Oper} {v:Value} {fuel:Nat} {RV:Array Bool} {a:Act} (d:Option Tmp) (hi:ops[ops.size - (fuel+1)]? =some oi) (_hd:oi.dst=d) (hc:Jj md ops RV (ops.size - (fuel+1)) oi d=true)
  (hQ: ∀ c a w,Q (.panic c) (a.put d v) w→Q (.panic c) a w) (hy:Does P ops S oi v a)
  (h:gR P md ops Q S fuel (RV.setIfInBounds (ops.size - (fuel+1)) true) (a.put d v)):gR P md ops Q S (fuel+1) RV a:=tm (ops.size - (fuel+1)) d hi hc hQ hy h
theorem ly {L:Nat} (n:Nat) {oi:Oper} {v:Value} {fuel:Nat} {RV:Array Bool} {a:Act} (d:Option Tmp) (hi:ops[ops.size - (fuel+1)]? =some oi) (_hd:oi.dst=d) (hc:lsB md ops RV (ops.size - (fuel+1)) L n oi d=true)
  (hQ: ∀ c a w,Q (.panic c) (a.put d v) w→Q (.panic c) a w) (hy:Does P ops S oi v a)
  (h:kS P md ops Q S L fuel (RV.setIfInBounds (ops.size - (fuel+1)) true) (a.put d v)):kS P md ops Q S L (fuel+1) RV a:=ls (ops.size - (fuel+1)) n d hi hc hQ hy h
theorem yl {oi:Oper} {v:Value} {fuel:Nat} {RV:Array Bool} {a:Act} {d:Tmp} (hy: ∀ w,S w→(execOp a.eval oi).run P w= .ok (.value v) w)
  (h:gR P md ops Q S fuel (RV.setIfInBounds (ops.size - (fuel+1)) true) (a.put (some d) v)) (hi:ops[ops.size - (fuel+1)]? =some oi:=by rfl) (_hd:oi.dst=some d:=by rfl) (hc:Jj md ops RV (ops.size - (fuel+1)) oi (some d)=true:=by kernel_rfl)
  (hQ: ∀ c a w,Q (.panic c) (a.put (some d) v) w→Q (.panic c) a w:=by exact fun _ _ _ h=>h) (hw:Region.wanted oi (yielded ops a.tmps)=true:=by kernel_rfl):gR P md ops Q S (fuel+1) RV a:=tm (ops.size - (fuel+1)) (some d) hi hc hQ (bV hw hy) h
theorem PI {oi:Oper} {v:Value} {fuel:Nat} {RV:Array Bool} {a a':Act} {d:Tmp} (h:gR P md ops Q S fuel (RV.setIfInBounds (ops.size - (fuel+1)) true) a')
  (hi:ops[ops.size - (fuel+1)]? =some oi:=by rfl) (hd:oi.dst=some d:=by rfl) (hy: ∀ w,S w→(execOp a.eval oi).run P w= .ok (.value v) w:=by intro w0 hS0; go_simp; try with_reducible rfl) (hc:Jj md ops RV (ops.size - (fuel+1)) oi (some d)=true:=by kernel_rfl)
  (hQ: ∀ c a w,Q (.panic c) (a.put (some d) v) w→Q (.panic c) a w:=by exact fun _ _ _ h=>h) (hw:Region.wanted oi (yielded ops a.tmps)=true:=by kernel_rfl) (ha:a.put (some d) v=a':=by simp only [pt,sb,s0,s1]; rfl):gR P md ops Q S (fuel+1) RV a:=
 yl hy (by rw [ha]; exact h) hi hd hc hQ hw
theorem nl {oi:Oper} {fuel:Nat} {RV:Array Bool} {a:Act} {d:Tmp}
  (h:gR P md ops Q S fuel (RV.setIfInBounds (ops.size - (fuel+1)) true) (a.put (some d) undef)) (hi:ops[ops.size - (fuel+1)]? =some oi:=by rfl) (_hd:oi.dst=some d:=by rfl) (hc:Jj md ops RV (ops.size - (fuel+1)) oi (some d)=true:=by kernel_rfl)
  (hQ: ∀ c a w,Q (.panic c) (a.put (some d) undef) w→Q (.panic c) a w:=by exact fun _ _ _ h=>h) (hw:Region.wanted oi (yielded ops a.tmps)=false:=by kernel_rfl):gR P md ops Q S (fuel+1) RV a:=tm (ops.size - (fuel+1)) (some d) hi hc hQ (np hw) h
theorem cl (v:Value) (f:FuncId) (args:Array Value) {oi:Oper} {fuel:Nat} {RV:Array Bool} {a:Act} {d:Tmp} (hy: ∀ w,S w→(execOp a.eval oi).run P w= .ok (.enter f args) w) (hf: ∀ w,S w→Calls P f args w (fun e w'=>e= .returned v∧S w'))
  (h:gR P md ops Q S fuel (RV.setIfInBounds (ops.size - (fuel+1)) true) (a.put (some d) v)) (hi:ops[ops.size - (fuel+1)]? =some oi:=by rfl) (_hd:oi.dst=some d:=by rfl) (hc:Jj md ops RV (ops.size - (fuel+1)) oi (some d)=true:=by kernel_rfl)
  (hQ: ∀ c a w,Q (.panic c) (a.put (some d) v) w→Q (.panic c) a w:=by exact fun _ _ _ h=>h) (hw:Region.wanted oi (yielded ops a.tmps)=true:=by kernel_rfl):gR P md ops Q S (fuel+1) RV a:=tm (ops.size - (fuel+1)) (some d) hi hc hQ (iZ hw hy hf) h
end
end
section
open Go.RowKit

end
section
open Go
theorem bL {P:Program} {fn:Func} {p u:Tmp} {ty:TypeId} (h:fn.results= #[.cell p ty,.tmp u]) (tmps:Array Value) (w:World) (g:Nat) (t:TypeId) (cs:Array Value) (fr:Nat × Nat) (d:TypeDesc)
  (hp:tmps.getD p undef= .pointer (some ⟨g,0,none⟩)) (hg:w.heap[g]? =some (.cells cs t fr))
  (hu:P.underlying ty=some d) (hd:(match d with | .struct _ | .array _ _=>true | _=>false)=true) (hi:(P.info? ty).map (·.size)=some cs.size):
  (results fn tmps).run P w= .ok (.tuple #[.agg cs,tmps.getD u undef]) w:=by
 rw [results_cell_tmp h,hp];simp [asAddr,run_loadVar_row w g t ty cs fr d hg hu hd hi]
end
section
open Go.RowKit
structure gG (r:Nat) (w w':World):Prop where
 os:w'.os=w.os
 tape:w'.tape=w.tape
 output:w'.output=w.output
 size:w.heap.size≤w'.heap.size
 block: ∀ k,k < w.heap.size→k≠r→w'.heap[k]? =w.heap[k]?
theorem gG.refl (r:Nat) (w:World):gG r w w:=⟨rfl,rfl,rfl,Ki _,fun _ _ _=>rfl⟩
theorem gG.trans {r:Nat} {a b c:World} (h:gG r a b) (k:gG r b c):gG r a c:=
 ⟨k.os.trans h.os,k.tape.trans h.tape,k.output.trans h.output,LG h.size k.size,fun i hi hr=>(k.block i (Kn hi h.size) hr).trans (h.block i hi hr)⟩
theorem gG.drew {r:Nat} {a w:World} (h:gG r a w):gG r a w.drew:=⟨h.os,h.tape,h.output,h.size,h.block⟩
theorem gG.setCell {r:Nat} {a w:World} (h:gG r a w) (i:Nat) (v:Value):gG r a (w.setCell ⟨r,i,none⟩ v):=
 h.trans ⟨rfl,rfl,rfl,by simp,fun k _ hr=>K6 _ _ _ _ hr⟩
theorem gG.dI {r:Nat} {w w':World} (h:Below w.heap.size w w'):gG r w w':=⟨h.os,h.tape,h.output,h.size,fun k hk _=>h.block k hk⟩
theorem gG.below {r B:Nat} {w w':World} (h:gG r w w') (hr:B≤r) (hB:B≤w.heap.size):Below B w w':=⟨h.os,h.tape,h.output,h.size,fun k hk=>h.block k (by omega) (by omega)⟩
theorem gG.alloc {r:Nat} {a w:World} (h:gG r a w) (o:Obj):gG r a (w.alloc o):=h.trans (gG.dI ((Kp _ _).alloc (Ki _) _))
theorem gG.cell {r:Nat} {w w':World} (h:gG r w w') {p:Addr} (hp:p.block < w.heap.size) (hr:p.block≠r):w'.cell? p=w.cell? p:=J1 (w:=w) (h.block p.block hp hr)
def Buf (w:World) (r:Nat) (a:Option Addr) (len:Nat):Prop:=len=0∨ ∃ b off,a=some ⟨b,off,none⟩∧b≠r∧ ∀ i,i < len→ ∃ v:Int,w.cell? ⟨b,off+i,none⟩=some (.int .u8 v)∧0≤v∧v≤255
def Rd (r:Nat) (a:Option Addr) (len cap:Nat) (w:World):Prop:=(∃ p:Nat,p≤len∧w.heap[r]? =some (.cells #[.slice a len cap,.int .i64 p] 188 (0,0)))∧Buf w r a len
theorem Buf.but {w w':World} {r:Nat} {a:Option Addr} {len:Nat} (h:Buf w r a len) (hb:gG r w w'):Buf w' r a len:=by
 rcases h with h | ⟨b,off,e,hr,hc⟩
 ·exact .inl h
 ·refine .inr ⟨b,off,e,hr,fun i hi=> ?_⟩
  obtain ⟨v,hv,hv'⟩:=hc i hi;exact ⟨v,(hb.cell (p:=⟨b,off+i,none⟩) (Le hv) hr).trans hv,hv'⟩
theorem Rd.lt {r:Nat} {a:Option Addr} {len cap:Nat} {w:World} (h:Rd r a len cap w):r < w.heap.size:=by
 obtain ⟨⟨p,_,hp⟩,_⟩:=h;exact (J2.1 hp).1
theorem Rd.below {r:Nat} {a:Option Addr} {len cap:Nat} {w w':World} (h:Rd r a len cap w) (hb:Below w.heap.size w w'):Rd r a len cap w':=by
 have hl:=h.lt;obtain ⟨⟨p,h1,hp⟩,hbuf⟩:=h;exact ⟨⟨p,h1,(hb.block _ hl).trans hp⟩,hbuf.but (gG.dI hb)⟩
theorem A9 (r:Nat) (a:Option Addr) (len cap:Nat) (w:World) (hl:len≤1048576) (h:Rd r a len cap w):
  Calls J3 161 #[.pointer (some ⟨r,0,none⟩)] w fun e w'=> ∃ v:Int,0≤v∧v≤255∧e= .returned (.int .i64 v)∧gG r w w'∧Rd r a len cap w':=by
 obtain ⟨⟨p,hp,hr⟩,hb⟩:=h;have c0:w.cell? ⟨r,0,none⟩=some (.slice a len cap):=by simp [World.cell?,hr]
 have c1:w.cell? ⟨r,1,none⟩=some (.int .i64 p):=by simp [World.cell?,hr]
 have f1:w.frozen? ⟨r,1,none⟩=false:=frozen_of_row w _ _ _ _ hr;have HR:Hid (w.heap[r]? =some (.cells #[.slice a len cap,.int .i64 p] 188 (0,0))):=hr;have HB:Hid (Buf w r a len):=hb;clear hr hb;by_cases hlt:len≤p
 ·have hd:decide ((len:Int)≤(p:Int))=true:=by simp; omega
  go_enter Tryz.func161,Tryz.ntmps161
  go_wp2
  go_region_held3 (fun w'=>w'.cell? ⟨r,0,none⟩=some (.slice a len cap)∧w'.cell? ⟨r,1,none⟩=some (.int .i64 p)) (go_keep) (fail)
  go_wp2;go_ret;exact ⟨0,by omega,by omega,rfl,(gG.refl _ _).drew,⟨p,hp,HR.I⟩,HB.I.but (gG.refl _ _).drew⟩
 ·have hd:decide ((len:Int)≤(p:Int))=false:=by simp; omega
  rcases HB.I with h0 | ⟨b,off,rfl,hbr,hc⟩
  ·omega
  obtain ⟨v,hv,v0,v1⟩:=hc p (by omega);have vl:=Le hv;have hpw:IntKind.i64.wrap (p:Int)=(p:Int):=by rw [K8]; omega
  have hbr': ¬ r=b:=fun e=>hbr e.symm
  have i0:(0:Int)≤(p:Int):=by omega
  have i1:(p:Int) < (len:Int):=by omega
  clear hc
  go_enter Tryz.func161,Tryz.ntmps161
  go_wp2
  go_region_held3 (fun w'=>w'.cell? ⟨r,0,none⟩=some (.slice (some ⟨b,off,none⟩) len cap)∧w'.cell? ⟨r,1,none⟩=some (.int .i64 p)) (go_keep) (fail)
  go_wp2;have k0:(w.setCell ⟨r,1,none⟩ (.int .i64 ((p:Int)+1))).cell? ⟨r,0,none⟩=some (.slice (some ⟨b,off,none⟩) len cap):=by rw [World.cell?_setCell_other _ _ _ _ (by simp)]; exact c0
  have k1:(w.setCell ⟨r,1,none⟩ (.int .i64 ((p:Int)+1))).cell? ⟨r,1,none⟩=some (.int .i64 ((p:Int)+1)):=World.cell?_setCell_same' _ _ _ (by rw [c1]; rfl);have k2:(w.setCell ⟨r,1,none⟩ (.int .i64 ((p:Int)+1))).cell? ⟨b,off+p,none⟩=some (.int .u8 v):=by rw [World.cell?_setCell_other _ _ _ _ (by intro h; have:=congrArg Addr.block h; simp at this; omega)]; exact hv
  have k3:(w.setCell ⟨r,1,none⟩ (.int .i64 ((p:Int)+1))).heap[r]? =some (.cells #[.slice (some ⟨b,off,none⟩) len cap,.int .i64 ((p:Int)+1)] 188 (0,0)):=heap_setCell_same _ _ _ _ _ _ HR.I;have HK:Hid ((w.setCell ⟨r,1,none⟩ (.int .i64 ((p:Int)+1))).heap[r]? =some (.cells #[.slice (some ⟨b,off,none⟩) len cap,.int .i64 ((p:Int)+1)] 188 (0,0))∧gG r w (w.setCell ⟨r,1,none⟩ (.int .i64 ((p:Int)+1)))):=⟨k3,(gG.refl _ _).setCell _ _⟩
  clear k3 c0 c1 hv f1;generalize w.setCell ⟨r,1,none⟩ (.int .i64 ((p:Int)+1))=W1 at *
  go_region_held3 (fun w'=>w'.cell? ⟨r,0,none⟩=some (.slice (some ⟨b,off,none⟩) len cap)∧w'.cell? ⟨r,1,none⟩=some (.int .i64 ((p:Int)+1))∧w'.cell? ⟨b,off+p,none⟩=some (.int .u8 v)) (go_keep) (fail)
  have hvw:IntKind.i64.wrap v=v:=by rw [K8]; omega
  go_wp2;go_ret;exact ⟨v,v0,v1,ck (by first | rfl | exact hvw),HK.I.2.drew.drew,⟨p+1,by omega,by have:=HK.I.1; exact this⟩,HB.I.but HK.I.2.drew.drew⟩
theorem dh (r:Nat) (a:Option Addr) (len cap:Nat) (n:Int) (w:World) (hl:len≤1048576) (n0:2≤n) (n1:n≤256) (h:Rd r a len cap w):
  Calls J3 82 #[.pointer (some ⟨r,0,none⟩),.int .i64 n] w fun e w'=> ∃ v:Int,0≤v∧v < n∧e= .returned (.int .i64 v)∧gG r w w'∧Rd r a len cap w':=by
 have k1: ¬ n≤1:=by omega
 have k2: ¬ n=0:=by omega
 go_enter Tryz.func82,Tryz.ntmps82
 go_wp2_with fail;refine (A9 r a len cap _ hl h).mono ?_;rintro e w1 ⟨v,v0,v1,rfl,hb,hr⟩;have m0:0≤v % n:=Int.emod_nonneg _ k2;have m1:v % n < n:=Int.emod_lt_of_pos _ (by omega);go_wp2;go_ret;exact ⟨v % n,m0,m1,rfl,hb,hr⟩
theorem jt (r:Nat) (a:Option Addr) (len cap:Nat) (n:Int) (w:World) (hl:len≤1048576) (n0:2≤n) (n1:n≤256) (h:Rd r a len cap w):
  Calls J3 93 #[.pointer (some ⟨r,0,none⟩),.int .i64 n] w fun e w'=> ∃ v:Bool,e= .returned (.bool v)∧gG r w w'∧Rd r a len cap w':=by
 go_enter Tryz.func93,Tryz.ntmps93
 go_wp2_with fail;refine (dh r a len cap n _ hl n0 n1 h).mono ?_;rintro e w1 ⟨v,v0,v1,rfl,hb,hr⟩;go_wp2;go_ret;exact ⟨_,rfl,hb,hr⟩
theorem BO (r:Nat) (a:Option Addr) (len cap:Nat) (w:World) (hl:len≤1048576) (h:Rd r a len cap w):
  Calls J3 201 #[.pointer (some ⟨r,0,none⟩)] w fun e w'=> ∃ v:Int,e= .returned (.int .u64 v)∧gG r w w'∧Rd r a len cap w':=by
 go_enter Tryz.func201,Tryz.ntmps201
 go_wp2
 go_loopw [3,4] (fun x i wr=> ∃ (k:Nat) (y:Int),k≤8∧i= .int .i64 k∧x= .int .u64 y∧gG r w wr∧Rd r a len cap wr) (fun _ i _=>8 - (intOf i).toNat)
 case atStart=>exact ⟨0,0,by omega,rfl,rfl,gG.refl _ _,h⟩
 case round=>
  obtain ⟨k,y,hk,rfl,rfl,hb,hr⟩:=hrel;by_cases hlt:k < 8
  ·go_wp2_with fail
   refine (A9 r a len cap _ hl hr).mono ?_;rintro e w1 ⟨v,v0,v1,rfl,hb1,hr1⟩;go_wp2;go_roundw
   case rel=>exact ⟨k+1,_,by omega,by go_num,rfl,hb.trans hb1,hr1⟩
   case measure=>simp [intOf]; omega
  ·go_wp2
   go_ret;exact ⟨y,rfl,hb,hr⟩
theorem FM (r:Nat) (a:Option Addr) (len cap:Nat) (low high:Int) (w:World) (hl:len≤1048576) (l0: -1≤low) (l1:low≤high) (l2:high≤1000000000) (h:Rd r a len cap w):
  Calls J3 146 #[.pointer (some ⟨r,0,none⟩),.int .i64 low,.int .i64 high] w fun e w'=> ∃ v:Int,e= .returned (.int .i64 v)∧gG r w w'∧Rd r a len cap w':=by
 have k1: ¬ high < low:=by omega
 have k2: ¬ high - low+1=0:=by omega
 go_enter Tryz.func146,Tryz.ntmps146
 go_wp2_with fail;refine (dh r a len cap 8 _ hl (by omega) (by omega) h).mono ?_;rintro e w1 ⟨v,v0,v1,rfl,hb,hr⟩;by_cases e0:v=0
 ·have b0:(v == 0)=true:=by simp [e0]
  go_wp2;go_ret;exact ⟨_,rfl,hb,hr⟩
 have b0:(v == 0)=false:=by simp [e0]
 by_cases e1:v=1
 ·have b1:(v == 1)=true:=by simp [e1]
  go_wp2;go_ret;exact ⟨_,rfl,hb,hr⟩
 have b1:(v == 1)=false:=by simp [e1]
 go_wp2_with fail;refine (BO r a len cap _ hl hr).mono ?_;rintro e w2 ⟨x,rfl,hb2,hr2⟩;go_wp2;go_ret;exact ⟨_,rfl,hb.trans hb2,hr2⟩
theorem pj (r:Nat) (a:Option Addr) (len cap:Nat) (low high:Int) (w:World) (hl:len≤1048576) (l0: -1≤low) (l1:low≤high) (l2:high≤1000000000) (h:Rd r a len cap w):
  Calls J3 77 #[.pointer (some ⟨r,0,none⟩),.int .i64 low,.int .i64 high] w fun e w'=> ∃ v:Int,e= .returned (.int .i64 v)∧gG r w w'∧Rd r a len cap w':=by
 go_enter Tryz.func77,Tryz.ntmps77
 go_wp2_with fail;refine (jt r a len cap 24 _ hl (by omega) (by omega) h).mono ?_;rintro e w1 ⟨v,rfl,hb,hr⟩;cases v with
 | true=>
  have rl:=hr.lt;go_wp2_with fail;refine (dh r a len cap 4 _ hl (by omega) (by omega) (hr.below ((Kp _ _).alloc (Ki _) _))).mono ?_;rintro e w2 ⟨v,v0,v1,rfl,hb2,hr2⟩;obtain ⟨n,rfl⟩:=QK v0;have hn:n < 4:=by omega
  have hy: ∃ y,w2.cell? ⟨w1.heap.size,n,none⟩=some (.int .i64 y):=by
   rw [hb2.cell (p:=⟨w1.heap.size,n,none⟩) (by simp) (by simp; omega),World.cell?_alloc_new]
   match n,hn with
   | 0,_=>exact ⟨_,rfl⟩
   | 1,_=>exact ⟨_,rfl⟩
   | 2,_=>exact ⟨_,rfl⟩
   | 3,_=>exact ⟨_,rfl⟩
  obtain ⟨y,hy⟩:=hy;have HB:Hid (gG r w w2):=(hb.alloc _).trans hb2;clear hb2 hb;go_wp2;go_ret;exact ⟨y,rfl,HB.I,hr2⟩
 | false=>
  go_wp2_with fail;refine (FM r a len cap low high _ hl l0 l1 l2 hr).mono ?_;rintro e w2 ⟨x,rfl,hb2,hr2⟩;go_wp2;go_ret;exact ⟨_,rfl,hb.trans hb2,hr2⟩
theorem AJ {w w':World} {base e size n r:Nat} {v:Value} {xs:List Value} (h:w.ownsRow base e size v n xs) (hb:gG r w w') (hr:r < base):w'.ownsRow base e size v n xs:=by
 obtain ⟨h1,h2⟩:=h;refine ⟨h1,?_⟩;rcases h2 with h2 | ⟨g,cap,cur,hv,hg,hh,rest⟩
 ·exact .inl h2
 ·exact .inr ⟨g,cap,cur,hv,hg,(hb.block g (J2.1 hh).1 (by omega)).trans hh,rest⟩
theorem gG.grown {r:Nat} {a w w':World} {row:Option Nat} (h:gG r a w) (hg:w.grownBy w' row) (hr: ∀ k,row=some k→a.heap.size≤k):gG r a w':=
 ⟨hg.os.trans h.os,hg.tape.trans h.tape,hg.output.trans h.output,LG h.size hg.size,fun k hk hkr=>
  (hg.block k (Kn hk h.size) (fun e=>by have:=hr k e.symm; omega)).trans (h.block k hk hkr)⟩
theorem gG.sF {r:Nat} {a w:World} (h:gG r a w) (b i:Nat) (v:Value) (hb:a.heap.size≤b):gG r a (w.setCell ⟨b,i,none⟩ v):=
 ⟨h.os,h.tape,h.output,by simpa using h.size,fun k hk hr=>(K6 _ _ _ _ (by simp; omega)).trans (h.block k hk hr)⟩
def mn (id next:Int):Value:= .agg #[.int .i64 id,.int .i64 next,.slice none 0 0,.slice none 0 0,.slice none 0 0,.slice none 0 0,.slice none 0 0,.slice none 0 0]
theorem tJ (id:Int) (w:World):Calls J3 23 #[.int .i64 id] w fun e w'=>e= .returned (.tuple #[if cv id 1 6=true then mn id 1 else mn 0 0,.bool (cv id 1 6)])∧Below w.heap.size w w':=by
 cases h:cv id 1 6 with
 | true=>
  go_enter Tryz.func23,Tryz.ntmps23
  go_wp2_with (go_at_call 78; refine (dx _ _ _ _).mono ?_; rintro e w' ⟨rfl,rfl⟩; rw [h]);exact KT (v:= .tuple #[mn id 1,.bool true]) (by simp [results,Tryz.results23,go_sem,mn]) rfl ⟨rfl,by go_grown⟩
 | false=>
  go_enter Tryz.func23,Tryz.ntmps23
  go_wp2_with (go_at_call 78; refine (dx _ _ _ _).mono ?_; rintro e w' ⟨rfl,rfl⟩; rw [h]);exact KT (v:= .tuple #[mn 0 0,.bool false]) (by simp [results,Tryz.results23,go_sem,mn]) rfl ⟨rfl,by go_grown⟩
theorem DG (a:Option Addr) (len cap:Nat) (w:World):Calls J3 20 #[.slice a len cap] w fun e w'=>e= .returned (.bool (decide (1048576 < len)))∧w'=w:=by
 by_cases h:1048576 < len
 ·have h':(1048576:Int) < (len:Int):=by omega
  go_enter Tryz.func20,Tryz.ntmps20
  go_wp2;go_ret;exact ⟨al (by simp [h]),rfl⟩
 ·have h': ¬ (1048576:Int) < (len:Int):=by omega
  go_enter Tryz.func20,Tryz.ntmps20
  go_wp2;go_ret;exact ⟨al (by simp),rfl⟩
def pJ (k:Int):Prop:=k=1∨k=2∨k=4∨k=5∨k=6∨k=11∨k=14∨k=15∨k=16
def mF (k:Int):Prop:=k=3∨k=7∨k=9∨k=12
def isText (k:Int):Prop:=k=10∨k=13
def bI (s:ByteArray):Bool:=s.toList.isEmpty
def mQ (k n m:Int) (s:ByteArray):Bool:=
 if k=1∨k=2∨k=4∨k=5∨k=6∨k=11∨k=14∨k=15∨k=16 then cv n 1 1000 && decide (m=0) && bI s
 else if k=3∨k=7∨k=9∨k=12 then cv n 1 1000 && cv m (-1) 1000 && bI s
 else if k=8 then cv n 1 1000 && cv m (-1) 1000 && bw s
 else if k=10∨k=13 then cv n 1 1000 && decide (m=0) && bw s
 else if k=17 then decide (n=0) && decide (m=0) && bI s
 else false
theorem Cr (k n m:Int) (s:ByteArray) (w:World) (hk:pJ k):
  Calls J3 213 #[.agg #[.int .i64 k,.int .i64 n,.int .i64 m,.string s]] w fun e w'=>e= .returned (.bool (mQ k n m s))∧Below w.heap.size w w':=by
 rcases hk with rfl | rfl | rfl | rfl | rfl | rfl | rfl | rfl | rfl
 all_goals
  simp only [mQ,Int.reduceEq,or_true,or_false,or_self,if_true,if_false]
  go_enter QL,QM
  go_wp2_with (go_at_call 78; refine (dx _ _ _ _).mono ?_; rintro e w' ⟨rfl,rfl⟩)
  all_goals go_ret
  all_goals exact ⟨al (by simp_all [bI]),by go_grown⟩
theorem BH (k n m:Int) (s:ByteArray) (w:World) (hk:mF k):
  Calls J3 213 #[.agg #[.int .i64 k,.int .i64 n,.int .i64 m,.string s]] w fun e w'=>e= .returned (.bool (mQ k n m s))∧Below w.heap.size w w':=by
 rcases hk with rfl | rfl | rfl | rfl
 all_goals
  simp only [mQ,Int.reduceEq,or_true,or_false,or_self,if_true,if_false]
  go_enter QL,QM
  go_wp2_with (go_at_call 78; refine (dx _ _ _ _).mono ?_; rintro e w' ⟨rfl,rfl⟩)
  all_goals go_ret
  all_goals exact ⟨al (by simp_all [bI]),by go_grown⟩
theorem Bu (k n m:Int) (s:ByteArray) (w:World) (hs:s.size≤1048576) (hk:isText k):
  Calls J3 213 #[.agg #[.int .i64 k,.int .i64 n,.int .i64 m,.string s]] w fun e w'=>e= .returned (.bool (mQ k n m s))∧Below w.heap.size w w':=by
 rcases hk with rfl | rfl
 all_goals
  simp only [mQ,Int.reduceEq,or_true,or_false,or_self,if_true,if_false]
  go_enter QL,QM
  go_wp2_with (first | (go_at_call 78; refine (dx _ _ _ _).mono ?_; rintro e w' ⟨rfl,rfl⟩) | (go_at_call 181; refine (jC _ _ hs).mono ?_; rintro e w' ⟨rfl,rfl⟩))
  all_goals go_ret
  all_goals exact ⟨al (by simp_all),by go_grown⟩
theorem BZ (k n m:Int) (s:ByteArray) (w:World) (hs:s.size≤1048576) (hk:k=8∨k=17):
  Calls J3 213 #[.agg #[.int .i64 k,.int .i64 n,.int .i64 m,.string s]] w fun e w'=>e= .returned (.bool (mQ k n m s))∧Below w.heap.size w w':=by
 rcases hk with rfl | rfl
 all_goals
  simp only [mQ,Int.reduceEq,or_self,if_true,if_false]
  go_enter QL,QM
  go_wp2_with (first | (go_at_call 78; refine (dx _ _ _ _).mono ?_; rintro e w' ⟨rfl,rfl⟩) | (go_at_call 181; refine (jC _ _ hs).mono ?_; rintro e w' ⟨rfl,rfl⟩))
  all_goals go_ret
  all_goals exact ⟨al (by simp_all [bI]),by go_grown⟩
theorem Bd {k n m:Int} {s:ByteArray} (h: ¬ (1≤k∧k≤17)):mQ k n m s=false:=by
 unfold mQ;rw [if_neg (by omega),if_neg (by omega),if_neg (by omega),if_neg (by omega),if_neg (by omega)]
theorem B9 (k n m:Int) (s:ByteArray) (w:World) (hk: ¬ (1≤k∧k≤17)):
  Calls J3 213 #[.agg #[.int .i64 k,.int .i64 n,.int .i64 m,.string s]] w fun e w'=>e= .returned (.bool (mQ k n m s))∧Below w.heap.size w w':=by
 rw [Bd hk];have e1:(k == 1)=false:=by simp; omega
 have e2:(k == 2)=false:=by simp; omega
 have e3:(k == 3)=false:=by simp; omega
 have e4:(k == 4)=false:=by simp; omega
 have e5:(k == 5)=false:=by simp; omega
 have e6:(k == 6)=false:=by simp; omega
 have e7:(k == 7)=false:=by simp; omega
 have e8:(k == 8)=false:=by simp; omega
 have e9:(k == 9)=false:=by simp; omega
 have Pn:(k == 10)=false:=by simp; omega
 have e11:(k == 11)=false:=by simp; omega
 have PF:(k == 12)=false:=by simp; omega
 have PG:(k == 13)=false:=by simp; omega
 have e14:(k == 14)=false:=by simp; omega
 have e15:(k == 15)=false:=by simp; omega
 have e16:(k == 16)=false:=by simp; omega
 have PH:(k == 17)=false:=by simp; omega
 go_enter QL,QM
 go_wp2_with (go_at_call 78; refine (dx _ _ _ _).mono ?_; rintro e w' ⟨rfl,rfl⟩);go_ret;exact ⟨rfl,by go_grown⟩
theorem xZ (k n m:Int) (s:ByteArray) (w:World) (hs:s.size≤1048576):
  Calls J3 213 #[.agg #[.int .i64 k,.int .i64 n,.int .i64 m,.string s]] w fun e w'=>e= .returned (.bool (mQ k n m s))∧Below w.heap.size w w':=by
 by_cases h0:1≤k∧k≤17
 ·by_cases h1:pJ k
  ·exact Cr k n m s w h1
  by_cases h2:mF k
  ·exact BH k n m s w h2
  by_cases h3:isText k
  ·exact Bu k n m s w hs h3
  exact BZ k n m s w hs (by unfold pJ at h1; unfold mF at h2; unfold isText at h3; omega)
 ·exact B9 k n m s w h0
theorem O4 {a n:Int} {s:ByteArray} (h0:0≤a) (h10:a < 10) (h:Lib.decDigits a.toNat ++ s.data.toList=Lib.decDigits n.toNat) (hn:0≤n):
  (⟨#[UInt8.ofNat (48+a).toNat]⟩:ByteArray) ++ s=Ij n:=by
 have e2:(48+a).toNat=48+a.toNat:=by omega
 apply ByteArray.ext;apply Array.ext';rw [Ij,F7 hn,← h,Lib.decDigits,dif_pos (by omega)];simp [e2,ByteArray.data_append]
theorem NT (n:Int) (hn0:0≤n) (hn:n≤9999999999) (w:World):
  Calls J3 171 #[.int .i64 n] w fun e w'=>e= .returned (.string (Ij n))∧Below w.heap.size w w':=by
 have h0: ¬ n < 0:=by omega
 have hcv:=Gx;have HN:Hid (0≤n∧n≤9999999999):=⟨hn0,hn⟩
 clear hn0 hn
 go_enter Tryz.func171,Tryz.ntmps171
 go_wp2;clear h0
 go_loopw [0,3] (fun i t wr=> ∃ (a:Int) (s:ByteArray),i= .int .i64 a∧t= .string s∧Hid (0≤a∧a≤n∧Lib.decDigits a.toNat ++ s.data.toList=Lib.decDigits n.toNat)∧Below w.heap.size w wr) (fun i _ _=>(intOf i).toNat)
 case atStart=>exact ⟨n,⟨#[]⟩,rfl,rfl,⟨HN.I.1,Int.le_refl _,by simp⟩,Kp _ _⟩
 case round=>
  obtain ⟨a,s,rfl,rfl,HD,kj⟩:=hrel;have hs: ¬ 9223372036854775807 < 1+s.size:=by
   have h1:=congrArg List.length HD.I.2.2;have h2:=Fk HN.I.2;have h3:s.data.toList.length=s.size:=by simp
   rw [List.length_append] at h1;omega
  by_cases h10:10≤a
  ·have e1:wrap64 (48+a.tmod 10) % 256=48+a % 10:=by
    have:=HD.I
    rw [Int.tmod_eq_emod_of_nonneg (by omega)];unfold wrap64; omega
   have e2:a.tdiv 10=a / 10:=Int.tdiv_eq_ediv_of_nonneg (by have:=HD.I; omega);have e3:wrap64 (a / 10)=a / 10:=by have:=HD.I; have:=HN.I; unfold wrap64; omega
   go_wp2;go_roundw
   case rel=>
    refine ⟨a / 10,_,by rw [e3],rfl,?_,kj.alloc kj.size _⟩;have HD':=HD.I;refine ⟨by omega,by omega,?_⟩;exact GP h10 HD'.2.2
   case measure=>simp only [intOf]; have:=HD.I; omega
  ·have e1:wrap64 (48+a) % 256=48+a:=by have:=HD.I; unfold wrap64; omega
   go_wp2;go_ret;refine ⟨?_,kj.alloc kj.size _⟩;have HD':=HD.I;rw [O4 HD'.1 (by omega) HD'.2.2 HN.I.1];rfl
theorem N2 {n:Int} (h:n < 0):Lib.itoa n=45 :: Lib.decDigits (-n).toNat:=by
 unfold Lib.itoa;rw [if_pos h]
 congr 2
 omega
theorem Pg {n:Int} (h:n < 0):(⟨#[45]⟩:ByteArray) ++ Ij (-n)=Ij n:=by
 apply ByteArray.ext;apply Array.ext';rw [Ij,Ij,N2 h,F7 (by omega)];simp [ByteArray.data_append]
theorem MD {n:Int} (h0: -9999999999≤n) (h:n≤9999999999):(Ij n).size≤11:=by
 have e:(Ij n).size=(Lib.itoa n).length:=by simp [Ij,ByteArray.size]
 rw [e];by_cases hn:n < 0
 ·have:=Fk (n:= -n) (by omega)
  rw [N2 hn]; simp; omega
 ·have:=Fk h
  rw [F7 (by omega)]; omega
theorem MC (n:Int) (hn0: -9999999999≤n) (hn:n≤9999999999) (w:World):
  Calls J3 171 #[.int .i64 n] w fun e w'=>e= .returned (.string (Ij n))∧Below w.heap.size w w':=by
 by_cases h:n < 0
 ·have e1:wrap64 (-n)= -n:=by unfold wrap64; omega
  have hs: ¬ 9223372036854775807 < 1+(Ij (-n)).size:=by have:=MD (n:= -n) (by omega) (by omega); omega
  have h1:0≤ -n:=by omega
  have h2: -n≤9999999999:=by omega
  have e4:=Pg h;clear hn0 hn
  go_enter Tryz.func171,Tryz.ntmps171
  go_wp2_with (go_at_call 171; refine (NT (-n) h1 h2 _).mono ?_; rintro e w' ⟨rfl,hb⟩);go_ret;exact ⟨by first | rfl | (rw [e4]; rfl),hb⟩
 ·exact NT n (by omega) hn w
def Bytes (w:World) (a:Option Addr) (len:Nat):Prop:=len=0∨ ∃ b off,a=some ⟨b,off,none⟩∧ ∀ i,i < len→ ∃ v:Int,w.cell? ⟨b,off+i,none⟩=some (.int .u8 v)∧0≤v∧v≤255
theorem Bytes.below {w w':World} {a:Option Addr} {len:Nat} (h:Bytes w a len) (hb:Below w.heap.size w w'):Bytes w' a len:=by
 rcases h with h | ⟨b,off,e,hc⟩
 ·exact .inl h
 ·refine .inr ⟨b,off,e,fun i hi=> ?_⟩
  obtain ⟨v,hv,hv'⟩:=hc i hi;exact ⟨v,(J1 (w:=w) (hb.block b (Le hv))).trans hv,hv'⟩
theorem Bytes.buf {w:World} {a:Option Addr} {len:Nat} (h:Bytes w a len):Buf w w.heap.size a len:=by
 rcases h with h | ⟨b,off,e,hc⟩
 ·exact .inl h
 ·rcases Nat.eq_zero_or_pos len with h0 | h0
  ·exact .inl h0
  ·refine .inr ⟨b,off,e,?_,hc⟩
   obtain ⟨v,hv,_⟩:=hc 0 h0
   have:=Le hv
   simp at this; omega
theorem Gj (a:Option Addr) (len cap:Nat) (w:World) (hb:Bytes w a len):
  Calls J3 76 #[.slice a len cap] w fun e w'=>e= .returned (.pointer (some ⟨w.heap.size,0,none⟩))∧Below w.heap.size w w'∧Rd w.heap.size a len cap w'∧gG w.heap.size w w':=by
 go_enter Tryz.func76,Tryz.ntmps76
 go_wp2;go_ret;exact ⟨rfl,(Kp _ _).alloc (Ki _) _,⟨⟨0,by omega,heap_alloc_new w _⟩,hb.buf.but ((gG.refl _ _).alloc _)⟩,(gG.refl _ _).alloc _⟩
theorem pT {n:Int} (h1: -2147483648≤n) (h2:n≤2147483647):(Lit.int .i64 n).wf=true:=by
 have e1:IntKind.min .i64≤ -2147483648:=by decide
 have e2:2147483647≤IntKind.max .i64:=by decide
 simp only [Lit.wf,J7,decide_eq_true_eq];omega
theorem wrap64_wf (n:Int):(Lit.int .i64 (wrap64 n)).wf=true:=by
 have e1:IntKind.min .i64= -9223372036854775808:=by decide
 have e2:IntKind.max .i64=9223372036854775807:=by decide
 simp only [Lit.wf,J7,decide_eq_true_eq,e1,e2];unfold wrap64;omega
theorem Iv (r:Nat) (a:Option Addr) (len cap:Nat) (low high:Int) (w:World) (hl:len≤1048576) (l0: -1≤low) (l1:low≤high) (l2:high≤1000000000) (h:Rd r a len cap w):
  Calls J3 146 #[.pointer (some ⟨r,0,none⟩),.int .i64 low,.int .i64 high] w fun e w'=> ∃ v:Int,e= .returned (.int .i64 v)∧(Lit.int .i64 v).wf=true∧gG r w w'∧Rd r a len cap w':=by
 have HWL:Hid ((Lit.int .i64 low).wf=true∧(Lit.int .i64 high).wf=true):=⟨pT (by omega) (by omega),pT (by omega) (by omega)⟩
 have k1: ¬ high < low:=by omega
 have k2: ¬ high - low+1=0:=by omega
 go_enter Tryz.func146,Tryz.ntmps146
 go_wp2_with fail;refine (dh r a len cap 8 _ hl (by omega) (by omega) h).mono ?_;rintro e w1 ⟨v,v0,v1,rfl,hb,hr⟩;by_cases e0:v=0
 ·have b0:(v == 0)=true:=by simp [e0]
  go_wp2;go_ret;exact ⟨_,rfl,HWL.I.1,hb,hr⟩
 have b0:(v == 0)=false:=by simp [e0]
 by_cases e1:v=1
 ·have b1:(v == 1)=true:=by simp [e1]
  go_wp2;go_ret;exact ⟨_,rfl,HWL.I.2,hb,hr⟩
 have b1:(v == 1)=false:=by simp [e1]
 go_wp2_with fail;refine (BO r a len cap _ hl hr).mono ?_;rintro e w2 ⟨x,rfl,hb2,hr2⟩;go_wp2;go_ret;exact ⟨_,rfl,wrap64_wf _,hb.trans hb2,hr2⟩
theorem Gk (r:Nat) (a:Option Addr) (len cap:Nat) (low high:Int) (w:World) (hl:len≤1048576) (l0: -1≤low) (l1:low≤high) (l2:high≤1000000000) (h:Rd r a len cap w):
  Calls J3 77 #[.pointer (some ⟨r,0,none⟩),.int .i64 low,.int .i64 high] w fun e w'=> ∃ v:Int,e= .returned (.int .i64 v)∧(Lit.int .i64 v).wf=true∧gG r w w'∧Rd r a len cap w':=by
 go_enter Tryz.func77,Tryz.ntmps77
 go_wp2_with fail;refine (jt r a len cap 24 _ hl (by omega) (by omega) h).mono ?_;rintro e w1 ⟨v,rfl,hb,hr⟩;cases v with
 | true=>
  have rl:=hr.lt;go_wp2_with fail;refine (dh r a len cap 4 _ hl (by omega) (by omega) (hr.below ((Kp _ _).alloc (Ki _) _))).mono ?_;rintro e w2 ⟨v,v0,v1,rfl,hb2,hr2⟩;obtain ⟨n,rfl⟩:=QK v0;have hn:n < 4:=by omega
  have hy: ∃ y,w2.cell? ⟨w1.heap.size,n,none⟩=some (.int .i64 y)∧(Lit.int .i64 y).wf=true:=by
   rw [hb2.cell (p:=⟨w1.heap.size,n,none⟩) (by simp) (by simp; omega),World.cell?_alloc_new]
   match n,hn with
   | 0,_=>exact ⟨_,rfl,pT (by omega) (by omega)⟩
   | 1,_=>exact ⟨_,rfl,pT (by omega) (by omega)⟩
   | 2,_=>exact ⟨_,rfl,rfl⟩
   | 3,_=>exact ⟨_,rfl,rfl⟩
  obtain ⟨y,hy,hyw⟩:=hy;have HY:Hid ((Lit.int .i64 y).wf=true):=hyw;clear hyw;have HB:Hid (gG r w w2):=(hb.alloc _).trans hb2;clear hb2 hb;go_wp2;go_ret;exact ⟨y,rfl,HY.I,HB.I,hr2⟩
 | false=>
  go_wp2_with fail;refine (Iv r a len cap low high _ hl l0 l1 l2 hr).mono ?_;rintro e w2 ⟨x,rfl,hxw,hb2,hr2⟩;go_wp2;go_ret;exact ⟨_,rfl,hxw,hb.trans hb2,hr2⟩
end
end Go.Proofs.YtkbcplnlehdjfaaGreat
