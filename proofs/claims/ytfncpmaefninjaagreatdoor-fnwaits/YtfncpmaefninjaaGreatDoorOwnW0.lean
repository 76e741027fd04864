/- What the proof leans on, part 0. -/
import Derived.Test.YtfncpmaefninjaaGreatDoorOwnS13
set_option linter.unusedVariables false
set_option maxRecDepth 100000
set_option maxHeartbeats 8000000
open Go.Proofs.Tryz
open Go renaming World->w_,Calls->k_,Addr->d_,below_setRow->q_
open Go.Ending renaming returned->r_
open Go.IntKind renaming i64->j_
open Go.Obj renaming cells->c_
open Go.RowKit renaming Below->B_
open Go.Value renaming int->i_,slice->s_,bool->b_,agg->a_
open Option renaming some->o_,none->n_
open Array renaming getElem?_eq_some_iff->J2
open Go renaming heap_alloc_new->Kj
open Go.Proofs.Tryz renaming prog->J3
open Go.RowKit.Below renaming refl->Kp
open List renaming eq_nil_of_length_eq_zero->adU,filter_cons->LN,getElem?_eq_getElem->Kz,length_map->KG,mem_map->Lr,mem_of_getElem?->KA
open Nat renaming le_refl->Ki,zero_le->Ky

namespace Go.Proofs.YtfncpmaefninjaaGreatDoor
structure Fits (p:aE):Prop where
 sem: ∀ x∈p.L8,x.Md=3→ ∀ s∈p.aj,s.id=x.on→ ¬ 0 < s.n
 event: ∀ x∈p.L8,x.Md=4→ ∀ e∈p.L9,e.id=x.on→ ¬ e.up=true
 ajl: ∀ x∈p.L8,x.Md=7→ ∀ b∈p.ag,b.id=x.on→ ¬ b.shown=true
 take: ∀ x∈p.L8,x.Md=6→ ∀ b∈p.ae,b.id=x.on→b.Ma= []
 send: ∀ x∈p.L8,x.Md=5→ ∀ b∈p.ae,b.id=x.on→ ¬ (b.Ma.length:Int) < b.max
def alv (l m:List aD):Prop:= ∀ y∈m,3≤y.Md→ ∃ z∈l,z.Md=y.Md∧z.on=y.on
section
variable {p q:aE} {l m n:List aD} {x:aD} {id k now nx:Int} {f:aD→aD}
theorem alv.refl:alv l l:=fun y hy _=>⟨y,hy,rfl,rfl⟩
theorem alv.trans (h1:alv l m) (h2:alv m n):alv l n:=fun y hy hs=>by
 obtain ⟨z,hz,e1,e2⟩:=h2 y hy hs;obtain ⟨v,hv,e3,e4⟩:=h1 z hz (by omega);exact ⟨v,hv,e3.trans e1,e4.trans e2⟩
theorem alv.ju (hf: ∀ x∈l,x.id=k→(f x).Md≤2∨((f x).Md=x.Md∧(f x).on=x.on)):alv l (ce k f l):=fun y hy hs=>by
 obtain ⟨z,hz,rfl⟩:=Lr.1 hy;by_cases h:z.id=k
 ·rw [if_pos h] at hs ⊢
  rcases hf z hz h with h1 | h1
  ·omega
  ·exact ⟨z,hz,h1.1.symm,h1.2.symm⟩
 ·rw [if_neg h] at hs ⊢
  exact ⟨z,hz,rfl,rfl⟩
theorem Fits.go (h:Fits p) (hw:alv p.L8 q.L8)
  (hs: ∀ s∈q.aj,0 < s.n→(∃ s'∈p.aj,s'.id=s.id∧0 < s'.n)∨ ∀ x∈q.L8,x.Md=3→ ¬ s.id=x.on)
  (he: ∀ e∈q.L9,e.up=true→(∃ e'∈p.L9,e'.id=e.id∧e'.up=true)∨ ∀ x∈q.L8,x.Md=4→ ¬ e.id=x.on)
  (hb: ∀ b∈q.ag,b.shown=true→(∃ b'∈p.ag,b'.id=b.id∧b'.shown=true)∨ ∀ x∈q.L8,x.Md=7→ ¬ b.id=x.on)
  (ht: ∀ b∈q.ae,¬ b.Ma= [] →(∃ b'∈p.ae,b'.id=b.id∧ ¬ b'.Ma= [])∨ ∀ x∈q.L8,x.Md=6→ ¬ b.id=x.on)
  (hd: ∀ b∈q.ae,(b.Ma.length:Int) < b.max→(∃ b'∈p.ae,b'.id=b.id∧(b'.Ma.length:Int) < b'.max)∨ ∀ x∈q.L8,x.Md=5→ ¬ b.id=x.on):Fits q:=by
 refine ⟨fun x hx hst s hm e hn=> ?_,fun x hx hst s hm e hn=> ?_,fun x hx hst s hm e hn=> ?_,fun x hx hst s hm e=>Classical.byContradiction fun hn=> ?_,fun x hx hst s hm e hn=> ?_⟩
 ·obtain ⟨z,hz,e1,e2⟩:=hw x hx (by omega)
  rcases hs s hm hn with ⟨s',h1,h2,h3⟩ | h1
  ·exact h.sem z hz (e1.trans hst) s' h1 (h2.trans (e.trans e2.symm)) h3
  ·exact h1 x hx hst e
 ·obtain ⟨z,hz,e1,e2⟩:=hw x hx (by omega)
  rcases he s hm hn with ⟨s',h1,h2,h3⟩ | h1
  ·exact h.event z hz (e1.trans hst) s' h1 (h2.trans (e.trans e2.symm)) h3
  ·exact h1 x hx hst e
 ·obtain ⟨z,hz,e1,e2⟩:=hw x hx (by omega)
  rcases hb s hm hn with ⟨s',h1,h2,h3⟩ | h1
  ·exact h.ajl z hz (e1.trans hst) s' h1 (h2.trans (e.trans e2.symm)) h3
  ·exact h1 x hx hst e
 ·obtain ⟨z,hz,e1,e2⟩:=hw x hx (by omega)
  rcases ht s hm hn with ⟨s',h1,h2,h3⟩ | h1
  ·exact h3 (h.take z hz (e1.trans hst) s' h1 (h2.trans (e.trans e2.symm)))
  ·exact h1 x hx hst e
 ·obtain ⟨z,hz,e1,e2⟩:=hw x hx (by omega)
  rcases hd s hm hn with ⟨s',h1,h2,h3⟩ | h1
  ·exact h.send z hz (e1.trans hst) s' h1 (h2.trans (e.trans e2.symm)) h3
  ·exact h1 x hx hst e
theorem Fits.L8 (h:Fits p) (hw:alv p.L8 q.L8) (h1:q.aj=p.aj) (h2:q.L9=p.L9) (h3:q.ag=p.ag) (h4:q.ae=p.ae):Fits q:=
 h.go hw (fun s hs hn=> .inl ⟨s,h1 ▸ hs,rfl,hn⟩) (fun s hs hn=> .inl ⟨s,h2 ▸ hs,rfl,hn⟩) (fun s hs hn=> .inl ⟨s,h3 ▸ hs,rfl,hn⟩) (fun s hs hn=> .inl ⟨s,h4 ▸ hs,rfl,hn⟩) (fun s hs hn=> .inl ⟨s,h4 ▸ hs,rfl,hn⟩)
theorem ame (nx code:Int) (x:aD):(iY nx code x).Md≤2:=by have:=(amD nx code x).2.2.2.1; omega
theorem anf (code:Int) (x:aD):(jT code x).Md≤2:=by
 unfold jT
 split <;> simp [j7,jM]
theorem ane {code:Int} :alv l (ce id (jT code) l):= .ju fun _ _ _=> .inl (anf _ _)
theorem amV {t:ByteArray} :alv l (ce id (lG t) l):= .ju fun _ _ _=> .inr ⟨rfl,rfl⟩
theorem amB {code:Int} :alv l (ce id (fun y=>iY nx code (f y)) l):= .ju fun _ _ _=> .inl (ame _ _ _)
theorem amt: ∀ (i:Nat) (p:aE),alv p.L8 (oO now i p).L8
 | 0,_=> .refl
 | i+1,p=>by
  unfold oO;cases lZ now p.L8 with
  | none=>exact .refl
  | some x=>exact alv.trans (m:=(gu p x).L8) (.ju fun y _ _=> .inl (ame _ _ _)) (amt i _)
theorem al4: ∀ (i:Nat) (p:aE),(oO now i p).aj=p.aj∧(oO now i p).L9=p.L9∧(oO now i p).ag=p.ag∧(oO now i p).ae=p.ae
 | 0,_=>⟨rfl,rfl,rfl,rfl⟩
 | i+1,p=>by
  unfold oO;cases lZ now p.L8 with
  | none=>exact ⟨rfl,rfl,rfl,rfl⟩
  | some x=>exact al4 i (gu p x)
theorem ams (h:Fits p):Fits (gj now p):=by
 obtain ⟨h1,h2,h3,h4⟩:=al4 (now:=now) (lF now p.L8).length p;exact h.L8 (amt _ p) h1 h2 h3 h4
theorem amq {st on:Int} : ∀ (i:Nat) (p:aE),alv p.L8 (gW f st on i p).L8
 | 0,_=> .refl
 | i+1,p=>by
  unfold gW;cases jl st on p.L8 with
  | none=>exact .refl
  | some x=>exact alv.trans (m:=(gF f p x).L8) amB (amq i _)
theorem alW {st on:Int} : ∀ (i:Nat) (p:aE),(gW f st on i p).aj=p.aj∧(gW f st on i p).L9=p.L9∧(gW f st on i p).ag=p.ag∧(gW f st on i p).ae=p.ae
 | 0,_=>⟨rfl,rfl,rfl,rfl⟩
 | i+1,p=>by
  unfold gW;cases jl st on p.L8 with
  | none=>exact ⟨rfl,rfl,rfl,rfl⟩
  | some x=>exact alW i (gF f p x)
theorem amH {P:aD→Bool} (hf:P (f x)=false) (hx:P x=true): ∀ {l:List aD},alY l→x∈l→((ce x.id f l).filter P).length+1=(l.filter P).length
 | [],_,h=>by cases h
 | y :: r,hr,h=>by
  have hr':=hr;rw [alY,List.pairwise_cons] at hr;by_cases e:y=x
  ·subst e
   have h2:ce y.id f (y :: r)=f y :: r:=by
    have h3:ce y.id f r=r:=qB fun z hz e=>by have:=hr.1 z hz; omega
    simp only [ce,List.map_cons,if_true] at h3 ⊢;rw [h3]
   rw [h2];simp [hf,hx]
  ·have hm:x∈r:=(List.mem_cons.1 h).resolve_left fun h1=>e h1.symm
   have h4:=amH hf hx hr.2 hm;have h5: ¬ y.id=x.id:=by have:=hr.1 x hm; omega
   have h6:ce x.id f (y :: r)=y :: ce x.id f r:=by simp [ce,h5]
   rw [h6];by_cases hy:P y=true
   ·simp only [LN,hy,if_true,List.length_cons]; omega
   ·simp only [LN,hy,Bool.false_eq_true,if_false]; exact h4
theorem al2 {st on:Int} (hst:3≤st) (hf: ∀ y,(f y).id=y.id): ∀ (i:Nat) (p:aE),alY p.L8→(p.L8.filter (ie st on)).length≤i→(gW f st on i p).L8.filter (ie st on)= []
 | 0,p,_,h=>adU (by simpa [gW] using h)
 | i+1,p,hr,h=>by
  unfold gW;cases hb:jl st on p.L8 with
  | none=>exact Dt hb
  | some x=>
   obtain ⟨h1,h2,h3⟩:=ft hb;have e:ie st on (iY p.next 0 (f x))=false:=by
    have:=ame p.next 0 (f x)
    simp [ie];omega
   have h4:=amH (f:=fun y=>iY p.next 0 (f y)) (P:=ie st on) e (by simp [ie,h2,h3]) hr h1;have h5:alY (gF f p x).L8:=rW (fun y=>(rD _ _ (f y)).1.trans (hf y)) hr;exact al2 hst hf i (gF f p x) h5 (by show ((ce x.id (fun y=>iY p.next 0 (f y)) p.L8).filter (ie st on)).length≤i; omega)
theorem al8 {st on:Int} (h:l.filter (ie st on)= []): ∀ x∈l,x.Md=st→ ¬ on=x.on:=fun x hx hs e=>by
 have:x∈l.filter (ie st on):=List.mem_filter.2 ⟨hx,by simp [ie,hs,e]⟩
 rw [h] at this;cases this
theorem alv.none {st on:Int} (hst:3≤st) (hw:alv l m) (h: ∀ x∈l,x.Md=st→ ¬ on=x.on): ∀ x∈m,x.Md=st→ ¬ on=x.on:=fun x hx hs e=>by
 obtain ⟨z,hz,e1,e2⟩:=hw x hx (by omega);exact h z hz (e1.trans hs) (e.trans e2.symm)
theorem alp {code:Int} (h:Fits p):Fits (bu code id p):=h.L8 ane rfl rfl rfl rfl
theorem alR {t:ByteArray} (h:Fits p):Fits (ez t id p):=h.L8 amV rfl rfl rfl rfl
theorem amc {x:aD} (h:Fits p):Fits (gF f p x):=h.L8 amB rfl rfl rfl rfl
theorem amu {st on Mg:Int} {held:ByteArray} (h:Fits p) (h3:st=3→ ∀ s∈p.aj,s.id=on→ ¬ 0 < s.n) (h4:st=4→ ∀ e∈p.L9,e.id=on→ ¬ e.up=true) (h7:st=7→ ∀ b∈p.ag,b.id=on→ ¬ b.shown=true)
  (h6:st=6→ ∀ b∈p.ae,b.id=on→b.Ma= []) (h5:st=5→ ∀ b∈p.ae,b.id=on→ ¬ (b.Ma.length:Int) < b.max):Fits (kC st on held Mg id p):=by
 have key: ∀ y∈(kC st on held Mg id p).L8,(y.Md=st∧y.on=on)∨y∈p.L8:=fun y hy=>by
  obtain ⟨z,hz,rfl⟩:=Lr.1 hy;by_cases e:z.id=id
  ·rw [if_pos e]; exact .inl ⟨rfl,rfl⟩
  ·rw [if_neg e]; exact .inr hz
 refine ⟨fun x hx hs=> ?_,fun x hx hs=> ?_,fun x hx hs=> ?_,fun x hx hs=> ?_,fun x hx hs=> ?_⟩
 ·exact (key x hx).elim (fun e=>by rw [e.2]; exact h3 (e.1.symm.trans hs)) (fun e=>h.sem x e hs)
 ·exact (key x hx).elim (fun e=>by rw [e.2]; exact h4 (e.1.symm.trans hs)) (fun e=>h.event x e hs)
 ·exact (key x hx).elim (fun e=>by rw [e.2]; exact h7 (e.1.symm.trans hs)) (fun e=>h.ajl x e hs)
 ·exact (key x hx).elim (fun e=>by rw [e.2]; exact h6 (e.1.symm.trans hs)) (fun e=>h.take x e hs)
 ·exact (key x hx).elim (fun e=>by rw [e.2]; exact h5 (e.1.symm.trans hs)) (fun e=>h.send x e hs)
theorem ama {st:Int} {o:dN} (h:Fits p) (h3:st=3→ ∀ s∈p.aj,s.id=o.2.1→ ¬ 0 < s.n) (h4:st=4→ ∀ e∈p.L9,e.id=o.2.1→ ¬ e.up=true) (h7:st=7→ ∀ b∈p.ag,b.id=o.2.1→ ¬ b.shown=true)
  (h6:st=6→ ∀ b∈p.ae,b.id=o.2.1→b.Ma= []) (h5:st=5→ ∀ b∈p.ae,b.id=o.2.1→ ¬ (b.Ma.length:Int) < b.max):Fits (mX st o now id p):=by
 unfold mX
 split
 ·exact alp h
 ·exact amu h h3 h4 h7 h6 h5
theorem alC {α:Type} {num:α→Int} {k:Int} {f:α→α} {l:List α} {y:α} (h:y∈jP num k f l): ∃ x∈l,(num x=k∧y=f x)∨(¬ num x=k∧y=x):=by
 obtain ⟨z,hz,rfl⟩:=Lr.1 h;refine ⟨z,hz,?_⟩;by_cases e:num z=k
 ·exact .inl ⟨e,if_pos e⟩
 ·exact .inr ⟨e,if_neg e⟩
theorem amI {k d:Int} (h:Fits p) (hd:d≤0∨ ∀ x∈p.L8,x.Md=3→ ¬ k=x.on):Fits (nZ k d p):=
 h.go .refl (fun s hs hn=>by
  obtain ⟨s0,h0,⟨e,rfl⟩ | ⟨e,rfl⟩⟩:=alC hs
  ·rcases hd with hd | hd
   ·exact .inl ⟨s0,h0,rfl,by have h5:0 < s0.n+d:=hn; omega⟩
   ·exact .inr (by show ∀ x∈p.L8,x.Md=3→ ¬ s0.id=x.on; rw [e]; exact hd)
  ·exact .inl ⟨s,h0,rfl,hn⟩)
  (fun s hs hn=> .inl ⟨s,hs,rfl,hn⟩) (fun s hs hn=> .inl ⟨s,hs,rfl,hn⟩) (fun s hs hn=> .inl ⟨s,hs,rfl,hn⟩) (fun s hs hn=> .inl ⟨s,hs,rfl,hn⟩)
theorem alV {k:Int} {l:List ByteArray} (h:Fits p) (ht: ∀ b∈p.ae,b.id=k→ ¬ l= [] → ¬ b.Ma= [] ∨ ∀ x∈p.L8,x.Md=6→ ¬ k=x.on)
  (hd: ∀ b∈p.ae,b.id=k→(l.length:Int) < b.max→(b.Ma.length:Int) < b.max∨ ∀ x∈p.L8,x.Md=5→ ¬ k=x.on):Fits (cV k l p):=
 h.go .refl (fun s hs hn=> .inl ⟨s,hs,rfl,hn⟩) (fun s hs hn=> .inl ⟨s,hs,rfl,hn⟩) (fun s hs hn=> .inl ⟨s,hs,rfl,hn⟩)
  (fun s hs hn=>by
   obtain ⟨s0,h0,⟨e,rfl⟩ | ⟨e,rfl⟩⟩:=alC hs
   ·rcases ht s0 h0 e hn with h1 | h1
    ·exact .inl ⟨s0,h0,rfl,h1⟩
    ·exact .inr (by show ∀ x∈p.L8,x.Md=6→ ¬ s0.id=x.on; rw [e]; exact h1)
   ·exact .inl ⟨s,h0,rfl,hn⟩)
  (fun s hs hn=>by
   obtain ⟨s0,h0,⟨e,rfl⟩ | ⟨e,rfl⟩⟩:=alC hs
   ·rcases hd s0 h0 e hn with h1 | h1
    ·exact .inl ⟨s0,h0,rfl,h1⟩
    ·exact .inr (by show ∀ x∈p.L8,x.Md=5→ ¬ s0.id=x.on; rw [e]; exact h1)
   ·exact .inl ⟨s,h0,rfl,hn⟩)
theorem amz {k:Int} (h:Fits p):Fits (gL k false p):=
 h.go .refl (fun s hs hn=> .inl ⟨s,hs,rfl,hn⟩) (fun s hs hn=>by
  obtain ⟨s0,h0,⟨e,rfl⟩ | ⟨e,rfl⟩⟩:=alC hs
  ·cases hn
  ·exact .inl ⟨s,h0,rfl,hn⟩) (fun s hs hn=> .inl ⟨s,hs,rfl,hn⟩) (fun s hs hn=> .inl ⟨s,hs,rfl,hn⟩) (fun s hs hn=> .inl ⟨s,hs,rfl,hn⟩)
theorem amA {k:Int} {t:ByteArray} (h:Fits p):Fits (ib k false t p):=
 h.go .refl (fun s hs hn=> .inl ⟨s,hs,rfl,hn⟩) (fun s hs hn=> .inl ⟨s,hs,rfl,hn⟩) (fun s hs hn=>by
  obtain ⟨s0,h0,⟨e,rfl⟩ | ⟨e,rfl⟩⟩:=alC hs
  ·cases hn
  ·exact .inl ⟨s,h0,rfl,hn⟩) (fun s hs hn=> .inl ⟨s,hs,rfl,hn⟩) (fun s hs hn=> .inl ⟨s,hs,rfl,hn⟩)
theorem amP {k:Int} (h:Fits p) (hr:alY p.L8) (hf: ∀ y,(f y).id=y.id):Fits (ff f 4 k (gL k true p)):=by
 obtain ⟨e1,e2,e3,e4⟩:=alW (f:=f) (st:=4) (on:=k) ((gL k true p).L8.filter (ie 4 k)).length (gL k true p);have hn:=al8 (al2 (f:=f) (st:=4) (on:=k) (by decide) hf _ (gL k true p) hr (Ki _));refine h.go (q:=ff f 4 k (gL k true p)) (amq _ (gL k true p)) (fun s hs hn=> .inl ⟨s,e1 ▸ hs,rfl,hn⟩) (fun s hs hu=> ?_) (fun s hs hn=> .inl ⟨s,e3 ▸ hs,rfl,hn⟩) (fun s hs hn=> .inl ⟨s,e4 ▸ hs,rfl,hn⟩) (fun s hs hn=> .inl ⟨s,e4 ▸ hs,rfl,hn⟩);have hs':s∈(gL k true p).L9:=e2 ▸ hs;exact Za5
theorem amM {k:Int} {t:ByteArray} (h:Fits p) (hr:alY p.L8) (hf: ∀ y,(f y).id=y.id):Fits (ff f 7 k (ib k true t p)):=by
 obtain ⟨e1,e2,e3,e4⟩:=alW (f:=f) (st:=7) (on:=k) ((ib k true t p).L8.filter (ie 7 k)).length (ib k true t p);have hn:=al8 (al2 (f:=f) (st:=7) (on:=k) (by decide) hf _ (ib k true t p) hr (Ki _));refine h.go (q:=ff f 7 k (ib k true t p)) (amq _ (ib k true t p)) (fun s hs hn=> .inl ⟨s,e1 ▸ hs,rfl,hn⟩) (fun s hs hn=> .inl ⟨s,e2 ▸ hs,rfl,hn⟩) (fun s hs hu=> ?_) (fun s hs hn=> .inl ⟨s,e4 ▸ hs,rfl,hn⟩) (fun s hs hn=> .inl ⟨s,e4 ▸ hs,rfl,hn⟩);have hs':s∈(ib k true t p).ag:=e3 ▸ hs;exact Za5
theorem anB {o:dN} (hp:aQ p) (h:Fits p):Fits (lX now x o p):=by
 have hr:=hp.kW;have v: ∀ {a b:Int} {P:Prop},¬ a=b→a=b→P:=fun h e=>absurd e h
 unfold lX;refine fK (P:=Fits) (fun _=> ?_) (fun _=> ?_)
 ·unfold GY
  refine fK (P:=Fits) (fun _=>alp h) (fun _=> ?_);exact h.L8 (.ju fun _ _ _=> .inr ⟨rfl,rfl⟩) rfl rfl rfl rfl
 refine fK (P:=Fits) (fun _=> ?_) (fun _=> ?_)
 ·exact amu h (v (by decide)) (v (by decide)) (v (by decide)) (v (by decide)) (v (by decide))
 refine fK (P:=Fits) (fun _=> ?_) (fun _=> ?_)
 ·unfold mh
  split
  ·exact alp h
  ·rename_i s hs
   split
   ·rename_i h0
    exact ama h (fun _ s' h1 h2=>by rw [only hp.aj hs h1 h2,h0]; decide) (v (by decide)) (v (by decide)) (v (by decide)) (v (by decide))
   ·exact alp (amI h (.inl (by decide)))
 refine fK (P:=Fits) (fun _=> ?_) (fun _=> ?_)
 ·unfold gJ
  split
  ·exact alp h
  ·split
   ·exact alp (amc h)
   ·rename_i hb
    split
    ·exact alp h
    ·exact alp (amI h (.inr (al8 (Dt hb))))
 refine fK (P:=Fits) (fun _=> ?_) (fun _=> ?_)
 ·unfold dE
  split
  ·exact alp h
  ·rename_i e he
   refine fK (P:=Fits) (fun _=>alp (amP h hr fun _=>rfl)) (fun _=> ?_);refine fK (P:=Fits) (fun _=>alp (amz h)) (fun _=> ?_);refine fK (P:=Fits) (fun _=>alp h) (fun hu=> ?_);exact ama h (v (by decide)) (fun _ s' h1 h2=>by rw [only hp.L9 he h1 h2]; exact hu) (v (by decide)) (v (by decide)) (v (by decide))
 refine fK (P:=Fits) (fun _=> ?_) (fun _=> ?_)
 ·unfold lc
  split
  ·exact alp h
  ·rename_i b hb
   split
   ·exact alp (amc h)
   ·rename_i hw
    refine fK (P:=Fits) (fun hl=> ?_) (fun hl=> ?_)
    ·exact ama h (v (by decide)) (v (by decide)) (v (by decide)) (v (by decide)) (fun _ s' h1 h2=>by rw [only hp.ae hb h1 h2]; omega)
    ·refine alp (alV h (fun _ _ _ _=> .inr (al8 (Dt hw))) fun s' h1 h2 h3=> .inl ?_)
     rw [only hp.ae hb h1 h2] at h3 ⊢;simp at h3;omega
 refine fK (P:=Fits) (fun _=> ?_) (fun _=> ?_)
 ·unfold ka
  split
  ·exact alp h
  ·rename_i b hb
   split
   ·rename_i hi
    exact ama (p:=ez rM x.id p) (alR h) (v (by decide)) (v (by decide)) (v (by decide)) (fun _ s' h1 h2=>by rw [only hp.ae hb h1 h2]; exact hi) (v (by decide))
   ·rename_i t r hi
    split
    ·rename_i hw
     refine alp (alV (p:=ez t x.id p) (alR h) (fun s' h1 h2 _=> .inl ?_) fun _ _ _ _=> .inr (al8 (Dt hw)));rw [only hp.ae hb h1 h2,hi];simp
    ·rename_i y hw
     refine alp (amc (alV (p:=ez t x.id p) (alR h) (fun s' h1 h2 _=> .inl ?_) fun s' h1 h2 h3=> .inl ?_))
     ·rw [only hp.ae hb h1 h2,hi]
      simp
     ·rw [only hp.ae hb h1 h2] at h3 ⊢
      rw [hi];simp at h3 ⊢;omega
 refine fK (P:=Fits) (fun _=> ?_) (fun _=> ?_)
 ·unfold dC
  split
  ·exact alp h
  ·rename_i b hb
   refine fK (P:=Fits) (fun _=>alp (amM h hr fun _=>rfl)) (fun _=> ?_);refine fK (P:=Fits) (fun _=>alp (amA h)) (fun _=> ?_);refine fK (P:=Fits) (fun _=>alp (alR h)) (fun hu=> ?_);exact ama (p:=ez b.text x.id p) (alR h) (v (by decide)) (v (by decide)) (fun _ s' h1 h2=>by rw [only hp.ag hb h1 h2]; exact hu) (v (by decide)) (v (by decide))
 refine fK (P:=Fits) (fun _=> ?_) (fun _=> ?_)
 ·unfold ig
  repeat' split
  all_goals first | exact alp h | exact alp (h.L8 .refl rfl rfl rfl rfl)
 refine fK (P:=Fits) (fun _=> ?_) (fun _=> ?_)
 ·unfold gC
  repeat' split
  all_goals first | exact alp h | exact alp (alR h) | exact alp (h.L8 (q:=gU _ _ (ez _ x.id p)) amV rfl rfl rfl rfl)
 refine fK (P:=Fits) (fun _=> ?_) (fun _=> ?_)
 ·unfold jU
  repeat' split
  all_goals first | exact alp h | exact alp (h.L8 (.ju fun _ _ _=> .inl (show (1:Int)≤2 by decide)) rfl rfl rfl rfl)
 refine fK (P:=Fits) (fun _=> ?_) (fun _=> ?_)
 ·unfold lg
  repeat' split
  all_goals first | exact alp h | exact h.L8 (q:=ot _ p) (.ju fun _ _ _=> .inl (show (0:Int)≤2 by decide)) rfl rfl rfl rfl | exact alp (h.L8 (q:=ot _ p) (.ju fun _ _ _=> .inl (show (0:Int)≤2 by decide)) rfl rfl rfl rfl)
 exact h.L8 (.ju fun _ _ _=> .inr ⟨rfl,rfl⟩) rfl rfl rfl rfl
theorem amX {R:Option aE} (h:R=hZ p now) (hs:R.isSome=true) (hf:Fits p):Fits (R.getD cN):=by
 obtain ⟨q,rfl⟩:=Option.isSome_iff_exists.1 hs;obtain ⟨hp,eu,hn,rfl,hw⟩:=alT h.symm;have w1:=(ru (now:=now) hp (by omega)).1
 show Fits (mS now p)
 unfold mS
 split
 ·exact ams hf
 ·exact anB w1 (ams hf)
end
section
open Go.RowKit Go.Maps
attribute [local go_sem ↓] Go.wp_at_zero Go.wp_at_succ
def semW (x:aD) (s:bD):Prop:=x.Md=3→s.id=x.on→ ¬ 0 < s.n
def anq (x:aD) (e:aB):Prop:=x.Md=4→e.id=x.on→ ¬ e.up=true
def ano (x:aD) (b:az):Prop:=x.Md=7→b.id=x.on→ ¬ b.shown=true
def am7 (x:aD) (b:ci):Prop:=b.id=x.on→(x.Md=6→b.Ma= [])∧(x.Md=5→ ¬ (b.Ma.length:Int) < b.max)
def am3 (p:aE) (x:aD):Prop:=(∀ s∈p.aj,semW x s)∧(∀ e∈p.L9,anq x e)∧(∀ b∈p.ag,ano x b)∧ ∀ b∈p.ae,am7 x b
theorem am1 (p:aE):Fits p↔ ∀ x∈p.L8,am3 p x:=
 ⟨fun h x hx=>⟨fun s hs h1=>h.sem x hx h1 s hs,fun s hs h1=>h.event x hx h1 s hs,fun s hs h1=>h.ajl x hx h1 s hs,fun s hs h1=>⟨fun h2=>h.take x hx h2 s hs h1,fun h2=>h.send x hx h2 s hs h1⟩⟩,
  fun h=>⟨fun x hx h1 s hs=>(h x hx).1 s hs h1,fun x hx h1 s hs=>(h x hx).2.1 s hs h1,fun x hx h1 s hs=>(h x hx).2.2.1 s hs h1,fun x hx h1 s hs h2=>((h x hx).2.2.2 s hs h2).1 h1,fun x hx h1 s hs h2=>((h x hx).2.2.2 s hs h2).2 h1⟩⟩
def alX {α:Type} (P:α→Prop) (l:List α) (k:Nat):Prop:= ∀ i,i < k→ ∀ x,l[i]? =o_ x→P x
theorem alX.zero {α:Type} {P:α→Prop} {l:List α} :alX P l 0:=fun _ h=>absurd h (Nat.not_lt_zero _)
theorem alX.next {α:Type} {P:α→Prop} {l:List α} {k:Nat} {x:α} (h:alX P l k) (hx:l[k]? =o_ x) (hp:P x):alX P l (k+1):=fun i hi y hy=>by
 rcases Nat.lt_or_ge i k with h1 | h1
 ·exact h i h1 y hy
 ·obtain rfl:i=k:=by omega
  rw [hx] at hy;cases hy;exact hp
theorem alX.all {α:Type} {P:α→Prop} {l:List α} {k:Nat} (h:alX P l k) (hk:l.length≤k): ∀ x∈l,P x:=fun x hx=>by
 obtain ⟨i,hi⟩:=List.mem_iff_getElem?.1 hx;exact h i (by have:=(List.getElem?_eq_some_iff.1 hi).1; omega) x hi
def LowE (w w':w_):Prop:=B_ w.heap.size w w'
def amW (p:aE) (w:w_) (e:Ending) (w':w_):Prop:= ∃ b:Bool,e=r_ (b_ b)∧(b=true→Fits p)∧(b=false→ ¬ Fits p)∧LowE w w'
theorem alK {p:aE} {x:aD} {w w':w_} (hx:x∈p.L8) (h: ¬ am3 p x) (hb:LowE w w'):amW p w (r_ (b_ false)) w':=
 ⟨false,rfl,(fun e=>by cases e),fun _ hf=>h ((am1 p).1 hf x hx),hb⟩
theorem amU (p:af) (w:w_) (hl:p.L8.length≤6∧p.aj.length≤5∧p.L9.length≤5∧p.ag.length≤5∧p.ae.length≤5∧ ∀ b∈p.ae,b.Ma.length≤1048576) (h:af.At w p):
  k_ J3 17 #[a_ p.cells] w fun e w'=>amW p.pure w e w':=by
 obtain ⟨W0,hW0⟩: ∃ W0:w_,W0=w.alloc (c_ p.cells 31):=⟨_,rfl⟩
 have S:Hid (av W0 w.heap.size p∧af.At W0 p∧B_ w.heap.size w W0):=⟨by rw [hW0]; exact Kj _ _,by rw [hW0]; exact h.below ((Kp _ _).alloc (Ki _) _),by rw [hW0]; exact (Kp _ _).alloc (Ki _) _⟩
 have HFB:Hid (∀ A,B_ W0.heap.size W0 A→LowE w A):=fun A hb=>S.I.2.2.trans (hb.mono S.I.2.2.size)
 have HL:=aA hl;clear h hl;unfold af.cells at hW0 ⊢
 go_enter func17,ntmps17
 go_upto_region 2 with fail;rw [← hW0];clear hW0;generalize hX:w.heap.size=X at *;clear hX
 go_loopw [3] (fun i wr=> ∃ k:Nat,k≤p.L8.length∧i=i_ j_ k∧Hid (alX (am3 p.pure) p.pure.L8 k∧B_ W0.heap.size W0 wr)) (fun i _=>p.L8.length - (Go.RowKit.intOf i).toNat)
 case atStart=>exact ⟨0,Ky _,rfl,alX.zero,Kp _ _⟩
 case round=>
  obtain ⟨k,hk,rfl,HK⟩:=hrel;have lp:=HL.I.1;have HP:=aA (show av wr X p∧af.At wr p from ⟨(HK.I.2.block _ (av.lt S.I.1)).trans S.I.1,S.I.2.1.below HK.I.2⟩);by_cases hlt:k < p.L8.length
  ·have i0:(0:Int)≤(k:Int):=by omega
   have i1:(k:Int) < (p.L8.length:Int):=by omega
   obtain ⟨x,hx⟩: ∃ x,p.L8[k]? =o_ x:=⟨_,Kz hlt⟩
   have HX:=aA (show p.pure.L8[k]? =o_ x.toaD by simp [af.pure,hx]);obtain ⟨gs,ha,q0,q1,q2,q3,q4,q5,q6,q7,q8,q9,kY,kV⟩:=cn HP.I.2.1 hx;obtain ⟨-,-,m2,-⟩:=HP.I.1.cells;rw [ha] at m2;clear hx ha;go_upto_region 6 with (refine wpList_store_row rfl 41 (.tmp 4) (.tmp 21) rfl wr.heap.size _ _ (aX x) rfl rfl (Kj _ _) ZcS rfl ZcS ?_);clear m2 q0 q1 q2 q3 q4 q5 q6 q7 q8 q9 kY kV HP;have hz:B_ wr.heap.size wr ((wr.alloc (c_ cE 41)).setRow wr.heap.size (aX x)):=q_ ((Kp _ _).alloc (Ki _) _) (Ki _) _;have HY:=aA (show (((wr.alloc (c_ cE 41)).setRow wr.heap.size (aX x)).heap[wr.heap.size]? =o_ (c_ (aX x) 41)∧B_ W0.heap.size W0 ((wr.alloc (c_ cE 41)).setRow wr.heap.size (aX x))) from ⟨setRow_heap _ _ _ _ _ _ (Kj _ _),HK.I.2.trans (hz.mono HK.I.2.size)⟩);have HKU:=aA HK.I.1;clear hz HK;generalize (wr.alloc (c_ cE 41)).setRow wr.heap.size (aX x)=W1 at *;generalize wr.heap.size=Y at *;have ll:p.aj.length≤5:=HL.I.2.1
   go_loopw [5] (fun i wr=> ∃ j:Nat,j≤p.aj.length∧i=i_ j_ j∧Hid (alX (semW x.toaD) p.pure.aj j∧B_ W1.heap.size W1 wr)) (fun i _=>p.aj.length - (Go.RowKit.intOf i).toNat)
   case atStart=>exact ⟨0,Ky _,rfl,alX.zero,Kp _ _⟩
   case round=>
    obtain ⟨j,hj,rfl,HJ⟩:=hrel
    rename w_=>V
    have HB:=aA (HY.I.2.trans (HJ.I.2.mono HY.I.2.size));have HP:=aA (show av V X p∧af.At V p from ⟨(HB.I.block _ (av.lt S.I.1)).trans S.I.1,S.I.2.1.below HB.I⟩);obtain ⟨-,-,-,m3,m4,m5,m6,-⟩:=HP.I.1.cells;by_cases hjl:j < p.aj.length
    ·have i0:(0:Int)≤(j:Int):=by omega
     have i1:(j:Int) < (p.aj.length:Int):=by omega
     obtain ⟨y,hy⟩: ∃ y,p.aj[j]? =o_ y:=⟨_,Kz hjl⟩
     have HYP:=aA (show p.pure.aj[j]? =o_ y from hy);obtain ⟨gt,hg,c0,c1,c2⟩:=lQ HP.I.2.2.1 hy;have HXB:=aA ((HJ.I.2.block _ (J2.1 HY.I.1).1).trans HY.I.1);obtain ⟨-,-,-,n3,-,-,-,n7,-,-,-,-⟩:=bo HXB.I;rw [hg] at m3;clear hg hy;by_cases f1:x.Md=3
     case neg=>
      have g1:(x.Md == 3)=false:=by simp [f1]
      exact BC
     have g1:(x.Md == 3)=true:=by simp [f1]
     have HF1:=aA f1;clear f1;by_cases f2:y.id=x.on
     case neg=>
      exact x_
     have g2:(y.id == x.on)=true:=by simp [f2]
     have HF2:=aA f2;clear f2;by_cases f3:0 < y.n
     case neg=>
      have IB:=aA f3;have g3:decide (y.n > 0)=false:=decide_eq_false f3;clear f3;go_wp2_with fail
      go_quiet (fail)
      go_wp2;go_roundw
      case rel=>exact ⟨j+1,by omega,by go_num,HJ.I.1.next HYP.I (fun _ _=>by have h5:=IB.I; omega),HJ.I.2.os,HJ.I.2.tape,HJ.I.2.output,HJ.I.2.size,HJ.I.2.block⟩
      case measure=>simp [Go.RowKit.intOf]; omega
     have g3:decide (y.n > 0)=true:=decide_eq_true f3;have HNO:Hid (¬ am3 p.pure x.toaD):=fun h5=>h5.1 y (KA HYP.I) HF1.I HF2.I f3
     exact Zac
    ·have i1: ¬ (j:Int) < (p.aj.length:Int):=by omega
     have HUsems:=aA (HJ.I.1.all (show p.pure.aj.length≤j by show p.aj.length≤j; omega));have HW:=aA HJ.I.2;clear HB HP;go_upto_region 11 with fail;clear m3 m4 m5 m6 i1 hjl hj ll;have ll:p.L9.length≤5:=HL.I.2.2.1
     go_loopw [6] (fun i wr=> ∃ j:Nat,j≤p.L9.length∧i=i_ j_ j∧Hid (alX (anq x.toaD) p.pure.L9 j∧B_ W1.heap.size W1 wr)) (fun i _=>p.L9.length - (Go.RowKit.intOf i).toNat)
     case atStart=>exact ⟨0,Ky _,rfl,alX.zero,HW.I⟩
     case round=>
      clear HW;obtain ⟨j,hj,rfl,HJ⟩:=hrel
      rename w_=>V
      have HB:=aA (HY.I.2.trans (HJ.I.2.mono HY.I.2.size));have HP:=aA (show av V X p∧af.At V p from ⟨(HB.I.block _ (av.lt S.I.1)).trans S.I.1,S.I.2.1.below HB.I⟩);obtain ⟨-,-,-,m3,m4,m5,m6,-⟩:=HP.I.1.cells;by_cases hjl:j < p.L9.length
      ·have i0:(0:Int)≤(j:Int):=by omega
       have i1:(j:Int) < (p.L9.length:Int):=by omega
       obtain ⟨y,hy⟩: ∃ y,p.L9[j]? =o_ y:=⟨_,Kz hjl⟩
       have HYP:=aA (show p.pure.L9[j]? =o_ y from hy);obtain ⟨gt,hg,c0,c1⟩:=j4 HP.I.2.2.2.1 hy;have HXB:=aA ((HJ.I.2.block _ (J2.1 HY.I.1).1).trans HY.I.1);obtain ⟨-,-,-,n3,-,-,-,n7,-,-,-,-⟩:=bo HXB.I;rw [hg] at m4;clear hg hy;by_cases f1:x.Md=4
       case neg=>
        have g1:(x.Md == 4)=false:=by simp [f1]
        exact BC
       have g1:(x.Md == 4)=true:=by simp [f1]
       have HF1:=aA f1;clear f1;by_cases f2:y.id=x.on
       case neg=>
        exact x_
       have g2:(y.id == x.on)=true:=by simp [f2]
       have HF2:=aA f2;clear f2;by_cases f3:y.up=true
       case neg=>
        have IB:=aA f3;have g3:y.up=false:=by simpa using f3
        exact Zaf
       have g3:y.up=true:=f3;have HNO:Hid (¬ am3 p.pure x.toaD):=fun h5=>h5.2.1 y (KA HYP.I) HF1.I HF2.I f3
       exact Zac
      ·have i1: ¬ (j:Int) < (p.L9.length:Int):=by omega
       have ann:=aA (HJ.I.1.all (show p.pure.L9.length≤j by show p.L9.length≤j; omega));have HW:=aA HJ.I.2;clear HB HP;go_upto_region 16 with fail;clear m3 m4 m5 m6 i1 hjl hj ll;have ll:p.ag.length≤5:=HL.I.2.2.2.1
       go_loopw [7] (fun i wr=> ∃ j:Nat,j≤p.ag.length∧i=i_ j_ j∧Hid (alX (ano x.toaD) p.pure.ag j∧B_ W1.heap.size W1 wr)) (fun i _=>p.ag.length - (Go.RowKit.intOf i).toNat)
       case atStart=>exact ⟨0,Ky _,rfl,alX.zero,HW.I⟩
       case round=>
        clear HW;obtain ⟨j,hj,rfl,HJ⟩:=hrel
        rename w_=>V
        have HB:=aA (HY.I.2.trans (HJ.I.2.mono HY.I.2.size));have HP:=aA (show av V X p∧af.At V p from ⟨(HB.I.block _ (av.lt S.I.1)).trans S.I.1,S.I.2.1.below HB.I⟩);obtain ⟨-,-,-,m3,m4,m5,m6,-⟩:=HP.I.1.cells;by_cases hjl:j < p.ag.length
        ·have i0:(0:Int)≤(j:Int):=by omega
         have i1:(j:Int) < (p.ag.length:Int):=by omega
         obtain ⟨y,hy⟩: ∃ y,p.ag[j]? =o_ y:=⟨_,Kz hjl⟩
         have HYP:=aA (show p.pure.ag[j]? =o_ y from hy);obtain ⟨gt,hg,c0,c1,c2⟩:=jr HP.I.2.2.2.2.1 hy;have HXB:=aA ((HJ.I.2.block _ (J2.1 HY.I.1).1).trans HY.I.1);obtain ⟨-,-,-,n3,-,-,-,n7,-,-,-,-⟩:=bo HXB.I;rw [hg] at m5;clear hg hy;by_cases f1:x.Md=7
         case neg=>
          have g1:(x.Md == 7)=false:=by simp [f1]
          exact BC
         have g1:(x.Md == 7)=true:=by simp [f1]
         have HF1:=aA f1;clear f1;by_cases f2:y.id=x.on
         case neg=>
          exact x_
         have g2:(y.id == x.on)=true:=by simp [f2]
         have HF2:=aA f2;clear f2;by_cases f3:y.shown=true
         case neg=>
          have IB:=aA f3;have g3:y.shown=false:=by simpa using f3
          exact Zaf
         have g3:y.shown=true:=f3;have HNO:Hid (¬ am3 p.pure x.toaD):=fun h5=>h5.2.2.1 y (KA HYP.I) HF1.I HF2.I f3
         exact Zac
        ·have i1: ¬ (j:Int) < (p.ag.length:Int):=by omega
         have anm:=aA (HJ.I.1.all (show p.pure.ag.length≤j by show p.ag.length≤j; omega));have HW:=aA HJ.I.2;clear HB HP;go_upto_region 21 with fail;clear m3 m4 m5 m6 i1 hjl hj ll;have ll:p.ae.length≤5:=HL.I.2.2.2.2.1
         go_loopw [8] (fun i wr=> ∃ j:Nat,j≤p.ae.length∧i=i_ j_ j∧Hid (alX (am7 x.toaD) p.pure.ae j∧B_ W1.heap.size W1 wr)) (fun i _=>p.ae.length - (Go.RowKit.intOf i).toNat)
         case atStart=>exact ⟨0,Ky _,rfl,alX.zero,HW.I⟩
         case round=>
          clear HW;obtain ⟨j,hj,rfl,HJ⟩:=hrel
          rename w_=>V
          have HB:=aA (HY.I.2.trans (HJ.I.2.mono HY.I.2.size));have HP:=aA (show av V X p∧af.At V p from ⟨(HB.I.block _ (av.lt S.I.1)).trans S.I.1,S.I.2.1.below HB.I⟩);obtain ⟨-,-,-,m3,m4,m5,m6,-⟩:=HP.I.1.cells;by_cases hjl:j < p.ae.length
          ·have i0:(0:Int)≤(j:Int):=by omega
           have i1:(j:Int) < (p.ae.length:Int):=by omega
           obtain ⟨y,hy⟩: ∃ y,p.ae[j]? =o_ y:=⟨_,Kz hjl⟩
           have HYP:=aA (show p.pure.ae[j]? =o_ y.toci by simp [af.pure,hy]);have HIL:=aA (HL.I.2.2.2.2.2 y (KA hy));obtain ⟨gt,hg,c0,c1,c2⟩:=iA HP.I.2.2.2.2.2.1 hy;rw [hg] at m6;clear hg hy;have HXB:=aA ((HJ.I.2.block _ (J2.1 HY.I.1).1).trans HY.I.1);have hz:B_ V.heap.size V (V.alloc (c_ #[i_ j_ y.id,i_ j_ y.max,s_ y.ak y.Ma.length y.aq] 96)):=(Kp _ _).alloc (Ki _) _;have HV:=aA (show ((V.alloc (c_ #[i_ j_ y.id,i_ j_ y.max,s_ y.ak y.Ma.length y.aq] 96)).heap[V.heap.size]? =o_ (c_ #[i_ j_ y.id,i_ j_ y.max,s_ y.ak y.Ma.length y.aq] 96)∧(V.alloc (c_ #[i_ j_ y.id,i_ j_ y.max,s_ y.ak y.Ma.length y.aq] 96)).heap[Y]? =o_ (c_ (aX x) 41)∧B_ W1.heap.size W1 (V.alloc (c_ #[i_ j_ y.id,i_ j_ y.max,s_ y.ak y.Ma.length y.aq] 96))) from ⟨Kj _ _,(hz.block _ (J2.1 HXB.I).1).trans HXB.I,HJ.I.2.trans (hz.mono HJ.I.2.size)⟩);clear hz;go_upto_region 24 with fail;clear c0 c1 c2 m6 i0 i1;generalize V.alloc (c_ #[i_ j_ y.id,i_ j_ y.max,s_ y.ak y.Ma.length y.aq] 96)=V2 at *;generalize V.heap.size=Z at *;obtain ⟨-,-,-,n3,-,-,-,n7,-,-,-,-⟩:=bo HV.I.2.1;have b0:V2.cell? ⟨Z,0,n_⟩=o_ (i_ j_ y.id):=by simp [World.cell?,HV.I.1]
           have b1:V2.cell? ⟨Z,1,n_⟩=o_ (i_ j_ y.max):=by simp [World.cell?,HV.I.1]
           have b2:V2.cell? ⟨Z,2,n_⟩=o_ (s_ y.ak y.Ma.length y.aq):=by simp [World.cell?,HV.I.1]
           have hil:=HIL.I;by_cases f2:y.id=x.on
           case neg=>
            have g2:(y.id == x.on)=false:=by simp [f2]
            have HF2:=aA f2;clear f2;go_wp2;go_roundw
            case rel=>exact ⟨j+1,by omega,by go_num,HJ.I.1.next HYP.I (fun h5=>absurd h5 HF2.I),HV.I.2.2⟩
            case measure=>simp [Go.RowKit.intOf]; omega
           have g2:(y.id == x.on)=true:=by simp [f2]
           have HF2:=aA f2;clear f2;by_cases f6:x.Md=6
           case pos=>
            have g6:(x.Md == 6)=true:=by simp [f6]
            have g5:(x.Md == 5)=false:=by simp [f6]
            have HF6:=aA f6;clear f6;by_cases f7:0 < y.Ma.length
            case pos=>
             have g7:decide (0 < y.Ma.length)=true:=decide_eq_true f7;have HF7:=aA f7;clear f7;have HNO:Hid (¬ am3 p.pure x.toaD):=fun h5=>by have h6:y.Ma= [] :=(h5.2.2.2 y.toci (KA HYP.I) HF2.I).1 HF6.I; have h7:=HF7.I; rw [h6] at h7; exact absurd h7 (by decide)
             exact ZbP
            have g7:decide (0 < y.Ma.length)=false:=decide_eq_false f7;have HF7:=aA f7;clear f7;go_wp2;go_roundw
            case rel=>exact ⟨j+1,by omega,by go_num,HJ.I.1.next HYP.I (fun _=>⟨fun _=>adU (by have h7:=HF7.I; show y.Ma.length=0; omega),fun h5=>absurd (h5.symm.trans HF6.I) (by decide)⟩),HV.I.2.2⟩
            case measure=>simp [Go.RowKit.intOf]; omega
           have g6:(x.Md == 6)=false:=by simp [f6]
           have HF6:=aA f6;clear f6;by_cases f5:x.Md=5
           case neg=>
            have g5:(x.Md == 5)=false:=by simp [f5]
            have HF5:=aA f5;clear f5;go_wp2;go_roundw
            case rel=>exact ⟨j+1,by omega,by go_num,HJ.I.1.next HYP.I (fun _=>⟨fun h5=>absurd h5 HF6.I,fun h5=>absurd h5 HF5.I⟩),HV.I.2.2⟩
            case measure=>simp [Go.RowKit.intOf]; omega
           have g5:(x.Md == 5)=true:=by simp [f5]
           have HF5:=aA f5;clear f5;by_cases f8:(y.Ma.length:Int) < y.max
           case pos=>
            have g8:decide ((y.Ma.length:Int) < y.max)=true:=decide_eq_true f8;have HF8:=aA f8;clear f8;have HNO:Hid (¬ am3 p.pure x.toaD):=fun h5=>(h5.2.2.2 y.toci (KA HYP.I) HF2.I).2 HF5.I HF8.I
            exact ZbP
           have g8:decide ((y.Ma.length:Int) < y.max)=false:=decide_eq_false f8;have HF8:=aA f8;clear f8;go_wp2;go_roundw
           case rel=>exact ⟨j+1,by omega,by go_num,HJ.I.1.next HYP.I (fun _=>⟨fun h5=>absurd h5 HF6.I,fun _=>HF8.I⟩),HV.I.2.2⟩
           case measure=>simp [Go.RowKit.intOf]; omega
          ·have i1: ¬ (j:Int) < (p.ae.length:Int):=by omega
           have anb:=aA (HJ.I.1.all (by simp only [af.pure,KG]; omega));have HW:=aA HJ.I.2;clear HB HP;have HN:=aA (HKU.I.next HX.I ⟨HUsems.I,ann.I,anm.I,anb.I⟩);go_wp2;go_roundw
           case rel=>exact ⟨k+1,by omega,by go_num,HN.I,HY.I.2.trans (HW.I.mono HY.I.2.size)⟩
           case measure=>simp [Go.RowKit.intOf]; omega
  ·have i1: ¬ (k:Int) < (p.L8.length:Int):=by omega
   obtain ⟨-,-,m2,-⟩:=HP.I.1.cells;have HU:=aA (HK.I.1.all (show p.pure.L8.length≤k by simp only [af.pure,KG]; omega));have HBK:=aA HK.I.2;clear HP HK;go_wp2;go_ret;exact ⟨true,rfl,fun _=>(am1 _).2 HU.I,(fun e=>by cases e),HFB.I _ HBK.I⟩
theorem amS {p:af} (h:aQ p.pure):p.L8.length≤6∧p.aj.length≤5∧p.L9.length≤5∧p.ag.length≤5∧p.ae.length≤5∧ ∀ b∈p.ae,b.Ma.length≤1048576:=by
 refine ⟨by have h5:=h.dl; simpa [af.pure] using h5,h.fx,h.cD,h.cC,by have h5:=h.cb; simpa [af.pure] using h5,fun b hb=> ?_⟩;have h5:=(cK h.ae b.toci (Lr.2 ⟨b,hb,rfl⟩)).2;simp only [ct,Bool.and_eq_true] at h5;have h6:=bz.1 h5.1;have h7:=(lv.1 h5.2).1;omega
theorem anc (a:Option d_) (len cap:Nat) (E:d_ × d_ × d_) (w:w_) (he:Ers w w.heap.size E) (hb:len≤1048576→Bytes w a len):
  k_ J3 5 #[s_ a len cap] w fun e w'=>e=r_ (b_ true)∧B_ w.heap.size w w':=by
 by_cases hl:1048576 < len
 ·have hd:decide (1048576 < len)=true:=by simp [hl]
  go_enter func5,ntmps5
  go_wp2_with (go_at_call 7; refine (DG _ _ _ _).mono ?_; rintro e w' ⟨rfl,rfl⟩; rw [hd]);go_ret;exact ⟨rfl,by go_grown⟩
 have hd:decide (1048576 < len)=false:=by simp [hl]
 have HBY:Hid (Bytes w a len):=hb (by omega);clear hb;have HER:=aA he;clear he;have HL:Hid (len≤1048576):=(by omega:len≤1048576)
 clear hl
 go_enter func5,ntmps5
 go_wp2_with (go_at_call 7; refine (DG _ _ _ _).mono ?_; rintro e w' ⟨rfl,rfl⟩; rw [hd]);clear hd;have S:Hid (TqS w' [] [] [] w'):=⟨by simp,by simp,by simp,by simp,Kp _ _⟩
 have Mb:=alQ a len cap w' HL.I HBY.I;go_wp2_with fail;refine Mb.mono ?_;clear Mb HBY HL;rintro e af8 ⟨p,now,rfl,hi,ho,hs,-,hb⟩;have HI:=aA hi;clear hi;replace S:=aA (S.I.put hb ho hs);clear ho hs hb;go_upto_region 4 with (refine ec 3 14 p.cells (Kj _ _) ?_);generalize (af8.alloc (c_ ar 31)).setRow af8.heap.size p.cells=WX1 at *;generalize af8.heap.size=X1 at *;obtain ⟨R1,Ps⟩: ∃ R,Hid (R=hZ p.pure now):=⟨_,rfl⟩
 have Mb:=ahg p now E _ (S.I.good (x:=(X1,p)) (by simp)) ((HER.I.below S.I.low).up S.I.low.size) HI.I;rw [← Ps.I] at Mb;go_wp2_with (refine eT 3 (g:=X1) (cs:=p.cells) (S.I.ins (X1,p) (by simp)).1.1 ?_);refine Mb.mono ?_;clear Mb;rintro e A2 ⟨q,rfl,ho,hp,hb⟩;replace S:=aA (S.I.put hb ho (by rw [hp]; exact (by rw [Ps.I]; exact za)));have b8:=aA hp;clear ho hb hp;go_upto_region 5 with (refine ec 5 20 q.cells (Kj _ _) ?_);generalize (A2.alloc (c_ ar 31)).setRow A2.heap.size q.cells=WX2 at *;generalize A2.heap.size=X2 at *;have Mb:=vu p now _ (dV (S.I.ins (X1,p) (by simp)).2.1) (fun x hx=>(cY (S.I.ins (X1,p) (by simp)).2.1 hx).1) (S.I.ins (X1,p) (by simp)).1.2.at;rw [← Ps.I] at Mb;go_wp2_with (refine eT 3 (g:=X1) (cs:=p.cells) (S.I.ins (X1,p) (by simp)).1.1 ?_);refine Mb.mono ?_;clear Mb;rintro e A3 ⟨r,rfl,ho,hp,hb⟩;replace S:=aA (S.I.put hb ho (by rw [hp]; exact (by rw [Ps.I]; exact za)));have yc:=aA hp;clear ho hb hp;go_upto_region 6 with (refine ec 7 26 r.cells (Kj _ _) ?_);generalize (A3.alloc (c_ ar 31)).setRow A3.heap.size r.cells=WX3 at *;generalize A3.heap.size=X3 at *;obtain ⟨c,hc⟩: ∃ c,Hid (c=R1.isSome):=⟨_,rfl⟩
 rw [← hc.I];cases c
 case false=>
  go_wp2;go_ret;exact ⟨al (by simp),S.I.low⟩
 have HPR:=aA (alT (Ps.I.symm.trans (Option.eq_some_of_isSome hc.I.symm))).1;have HQR:Hid (aQ q.pure):=(ch _).1 (by rw [b8.I]; exact (amL Ps.I hc.I.symm).2.1);have Mb:=amU p _ (amS HPR.I) (S.I.ins (X1,p) (by simp)).1.2.at;unfold af.cells at Mb;obtain ⟨m0,m1,m2,m3,m4,m5,m6,m7⟩:=(S.I.ins (X1,p) (by simp)).1.1.cells;go_wp2_with fail;clear m0 m1 m2 m3 m4 m5 m6 m7;refine Mb.mono ?_;clear Mb;rintro e B1 ⟨b,rfl,hb1,-,hb⟩;replace S:=aA (S.I.below (show B_ _ _ _ from hb));have fQ:=aA hb1;clear hb hb1;cases b
 case false=>
  go_wp2;go_ret;exact ⟨al (by simp),S.I.low⟩
 have HFQ:Hid (Fits q.pure):=by rw [b8.I]; exact amX Ps.I hc.I.symm (fQ.I rfl)
 have Mb:=amU q _ (amS HQR.I) (S.I.ins (X2,q) (by simp)).1.2.at;go_wp2_with (refine eT 5 (g:=X2) (cs:=q.cells) (S.I.ins (X2,q) (by simp)).1.1 ?_);refine Mb.mono ?_;clear Mb;rintro e B2 ⟨b,rfl,-,hb1,hb⟩;replace S:=aA (S.I.below (show B_ _ _ _ from hb));have cy:=aA hb1;clear hb hb1;cases b
 case false=>exact absurd HFQ.I (cy.I rfl)
 go_wp2;go_ret;exact ⟨rfl,S.I.low⟩
end
end Go.Proofs.YtfncpmaefninjaaGreatDoor
