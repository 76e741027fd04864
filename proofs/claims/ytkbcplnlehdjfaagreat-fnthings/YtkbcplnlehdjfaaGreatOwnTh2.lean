/- What the proof leans on, part 2: ThB. -/
import Derived.Test.YtkbcplnlehdjfaaGreatOwnC2
import Derived.Test.YtkbcplnlehdjfaaGreatOwnC25
import Derived.Test.YtkbcplnlehdjfaaGreatOwnTh0
set_option maxRecDepth 100000
set_option maxHeartbeats 8000000
open Bool renaming and_eq_true->J7
open Go renaming heap_alloc_new->Kj,setRow_heap->KU,setRow_other->KH
open Go.RowKit.Below renaming refl->Kp
open List renaming length_map->KG,mem_cons->Kt
open Nat renaming le_refl->Ki

namespace Go.Proofs.YtkbcplnlehdjfaaGreat
open Go.RowKit Go.Maps
structure JR (w0:World) (a:Option Addr) (len:Nat) (L:List (Nat × af)) (B:List (Nat × Array Value × TypeId)) (W:World):Prop where
 ins: ∀ x∈L,o8 W x.1 w0.heap.size x.2
 box: ∀ x∈B,oc x.2.1 x.2.2 x.1 W
 low:Below w0.heap.size w0 W
 bytes:Bytes W a len
section
variable {w0 W A:World} {a:Option Addr} {len:Nat} {L:List (Nat × af)} {B:List (Nat × Array Value × TypeId)} {q:af}
theorem JR.below (h:JR w0 a len L B W) (hb:Below W.heap.size W A):JR w0 a len L B A:=
 ⟨fun x hx=>(h.ins x hx).below hb,fun x hx=>(h.box x hx).below hb,h.low.trans (hb.mono h.low.size),h.bytes.below hb⟩
theorem JR.add (h:JR w0 a len L B A) {X:Nat} (hp:o8 A X w0.heap.size q):JR w0 a len ((X,q) :: L) B A:=
 ⟨fun x hx=>(Kt.1 hx).elim (fun e=>by rw [e]; exact hp) (h.ins x),h.box,h.low,h.bytes⟩
theorem JR.addB (h:JR w0 a len L B A) {X:Nat} {cs:Array Value} {T:TypeId} (hp:oc cs T X A):JR w0 a len L ((X,cs,T) :: B) A:=
 ⟨h.ins,fun x hx=>(Kt.1 hx).elim (fun e=>by rw [e]; exact hp) (h.box x),h.low,h.bytes⟩
theorem JR.put (h:JR w0 a len L B W) (hb:Below W.heap.size W A) (ho:ap A W.heap.size q):JR w0 a len ((A.heap.size,q) :: L) B ((A.alloc (.cells ar 32)).setRow A.heap.size q.cells):=by
 have hz:Below A.heap.size A ((A.alloc (.cells ar 32)).setRow A.heap.size q.cells):=below_setRow ((Kp _ _).alloc (Ki _) _) (Ki _) _;exact ((h.below hb).below hz).add ⟨KU _ _ _ _ _ _ (Kj _ _),(ho.lower h.low.size).below hz⟩
theorem JR.put2 (h:JR w0 a len L B W) (hb:Below W.heap.size W A) (ho:ap A W.heap.size q) {cs old:Array Value} {T:TypeId} :JR w0 a len ((A.heap.size,q) :: L) ((A.heap.size+1,cs,T) :: B) ((((A.alloc (.cells ar 32)).alloc (.cells old T)).setRow A.heap.size q.cells).setRow (A.heap.size+1) cs):=by
 have h1:Below A.heap.size A ((A.alloc (.cells ar 32)).alloc (.cells old T)):=((Kp _ _).alloc (Ki _) _).alloc (by simp) _;have h2:=below_setRow (below_setRow h1 (Ki _) q.cells) (Nat.le_succ _) cs;have h3:((A.alloc (.cells ar 32)).alloc (.cells old T)).heap[A.heap.size]? =some (.cells ar 32 (0,0)):=by
  rw [heap_alloc_old _ _ (by simp)];exact Kj _ _
 have h4:((A.alloc (.cells ar 32)).alloc (.cells old T)).heap[A.heap.size+1]? =some (.cells old T (0,0)):=by simpa using Kj (A.alloc (.cells ar 32)) (.cells old T)
 exact (((h.below hb).below h2).add ⟨(KH _ _ _ _ (by omega)).trans (KU _ _ _ _ _ _ h3),(ho.lower h.low.size).below h2⟩).addB (KU _ _ _ _ _ _ ((KH _ _ _ _ (by omega)).trans h4))
end
theorem JE {p p':aE} {R:Option aE} (h:R=cB p p') (hs:R.isSome=true):bK p=true∧bK p'=true∧R=some p':=by
 cases hc:(bK p && bK p') with
 | false=>rw [h,jh hc] at hs; exact absurd hs (by decide)
 | true=>exact ⟨((J7 _ _).mp hc).1,((J7 _ _).mp hc).2,h.trans (jS hc)⟩
theorem JP {m n:Nat} (h:m=n+1) (hn:n≤1048576):((m:Int) != wrap64 ((n:Int)+1))=false:=by
 have:wrap64 ((n:Int)+1)=(m:Int):=by unfold wrap64; omega
 rw [this];simp
theorem len_eq {m n:Nat} (h:m=n+1) (hn:n≤1048576):((m:Int) == wrap64 ((n:Int)+1))=true:=by
 have:wrap64 ((n:Int)+1)=(m:Int):=by unfold wrap64; omega
 rw [this];simp
theorem JZ {p q:af} {z:bD} {R:Option aE} (h:R=cB p.pure { p.pure with aj:=cA (·.id) z p.pure.aj }) (hq:q.pure=R.getD cN) (hs:R.isSome=true):bK q.pure=true∧q.aj.length=p.aj.length+1∧q.L8.length=p.L8.length∧cB q.pure { q.pure with aj:=cA (·.id) z q.pure.aj } =none:=by
 obtain ⟨-,h2,h3⟩:=JE h hs;have hq:q.pure= { p.pure with aj:=cA (·.id) z p.pure.aj } :=by rw [hq,h3]; rfl
 have hl:=congrArg (fun x:aE=>x.aj.length) hq;simp only [eJ,af.pure] at hl;have hp:=congrArg (fun x:aE=>x.L8.length) hq;simp only [af.pure,KG] at hp;have hr:bK q.pure=true:=hq ▸ h2;refine ⟨hr,hl,hp,ox ?_⟩;have hm:z∈q.pure.aj:=by rw [hq]; exact js.2 (.inl rfl)
 have hR:=(ch _).1 hr;cases hc:bK { q.pure with aj:=cA (·.id) z q.pure.aj } with
 | false=>rfl
 | true=>
  have h5:=((ch _).1 hc).aj;rw [uw (List.mem_map.2 ⟨z,hm,rfl⟩) hR.aj] at h5;exact absurd h5 (by decide)
theorem JW {p q:af} {id:Int} {R:Option aE} (h:R=cB p.pure { p.pure with L9:=cA (·.id) (⟨id,false⟩:aB) p.pure.L9 }) (hq:q.pure=R.getD cN) (hs:R.isSome=true):bK q.pure=true∧q.L9.length=p.L9.length+1:=by
 obtain ⟨-,h2,h3⟩:=JE h hs;have hq:q.pure= { p.pure with L9:=cA (·.id) (⟨id,false⟩:aB) p.pure.L9 } :=by rw [hq,h3]; rfl
 have hl:=congrArg (fun x:aE=>x.L9.length) hq;simp only [eJ,af.pure] at hl;exact ⟨hq ▸ h2,hl⟩
theorem JV {p q:af} {id:Int} {R:Option aE} (h:R=cB p.pure { p.pure with ag:=cA (·.id) (⟨id,false,⟨#[]⟩⟩:az) p.pure.ag }) (hq:q.pure=R.getD cN) (hs:R.isSome=true):bK q.pure=true∧q.ag.length=p.ag.length+1:=by
 obtain ⟨-,h2,h3⟩:=JE h hs;have hq:q.pure= { p.pure with ag:=cA (·.id) (⟨id,false,⟨#[]⟩⟩:az) p.pure.ag } :=by rw [hq,h3]; rfl
 have hl:=congrArg (fun x:aE=>x.ag.length) hq;simp only [eJ,af.pure] at hl;exact ⟨hq ▸ h2,hl⟩
theorem JT {p q:af} {id Me:Int} {R:Option aE} (h:R=cB p.pure { p.pure with ae:=bY (·.id) (⟨id,Me,[]⟩:ci) p.pure.ae }) (hq:q.pure=R.getD cN) (hs:R.isSome=true):bK q.pure=true∧q.ae.length=p.ae.length+1:=by
 obtain ⟨-,h2,h3⟩:=JE h hs;have hq:q.pure= { p.pure with ae:=bY (·.id) (⟨id,Me,[]⟩:ci) p.pure.ae } :=by rw [hq,h3]; rfl
 have hl:=congrArg (fun x:aE=>x.ae.length) hq;simp only [er,af.pure,KG] at hl;exact ⟨hq ▸ h2,hl⟩
theorem JY {p q:af} {z:aM} {R:Option aE} (h:R=cB p.pure { p.pure with ai:=bY (·.id) (⟨z.id,z.out,z.Mf,z.max,[]⟩:dS) p.pure.ai }) (hq:q.pure=R.getD cN) (hs:R.isSome=true):bK q.pure=true∧q.ai.length=p.ai.length+1:=by
 obtain ⟨-,h2,h3⟩:=JE h hs;have hq:q.pure= { p.pure with ai:=bY (·.id) (⟨z.id,z.out,z.Mf,z.max,[]⟩:dS) p.pure.ai } :=by rw [hq,h3]; rfl
 have hl:=congrArg (fun x:aE=>x.ai.length) hq;simp only [er,af.pure,KG] at hl;exact ⟨hq ▸ h2,hl⟩
end Go.Proofs.YtkbcplnlehdjfaaGreat
