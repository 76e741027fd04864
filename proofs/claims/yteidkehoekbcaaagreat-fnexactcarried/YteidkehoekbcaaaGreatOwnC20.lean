/- What the proof leans on, part 20. -/
import Derived.Test.YteidkehoekbcaaaGreatOwnC19
set_option maxRecDepth 100000
set_option maxHeartbeats 8000000
open Array renaming getElem?_eq_some_iff->J2
open Go renaming setRow_other->KH,wp_at_succ->Kd,wp_at_zero->Kc
open Go.Proofs.Tryz renaming prog->J3
open Go.RowKit.Below renaming refl->Kp
open Go.Value.slice renaming injEq->LD
open List renaming find?_some->PS,length_map->KG,map_congr_left->Lw,map_cons->Lt,map_map->Lv,mem_append->Kg,mem_cons->Kt,mem_filterMap->Lq,mem_map->Lr,mem_of_find?_eq_some->RG,nodup_cons->Lp,pairwise_map->Qm
open Nat renaming le_refl->Ki,lt_of_lt_of_le->Kn,zero_le->Ky
open Option.some renaming inj->KC

namespace Go.Proofs.YteidkehoekbcaaaGreat
section
open Go.RowKit Go.Maps
attribute [local go_sem ↓] Kc Kd
def abJ (k:kd) (id:Int):Option kd:=if eP k=true∧(hP (fun p:aE=>p.id) id k.parts).isSome=true then some { k with parts:=abI id k.parts k.eC } else none
theorem acv {k:kd} {id:Int} (h:eP k=false):abJ k id=none:=if_neg fun hh=>by rw [h] at hh; cases hh.1
theorem acy {k:kd} {id:Int} (h:hP (fun p:aE=>p.id) id k.parts=none):abJ k id=none:=if_neg fun hh=>by rw [h] at hh; cases hh.2
theorem acw {k:kd} {id:Int} {p:aE} (h:eP k=true) (hp:hP (fun p:aE=>p.id) id k.parts=some p):abJ k id=some { k with parts:=abI id k.parts k.eC } :=if_pos ⟨h,by rw [hp]; rfl⟩
theorem ab2 {k:kd} (h:eP k=true): ∀ p∈k.parts,∀ q∈p.ai,dj q=true:=fun p hp q hq=>(cK (Ww h p hp).ai q hq).2
theorem ab1 {k:kd} (h:eP k=true): ∀ c∈k.eC,pa k.parts c=true:=by
 simp only [eP,Bool.and_eq_true] at h;exact acM h.2
structure KZK (w:World) (k:eA) (W:World):Prop where
 ks:dr w w.heap.size k W
 I:W.heap[w.heap.size+1]? =some (.cells T9 37 (0,0))
theorem KZK.below {w W W2:World} {k:eA} (h:KZK w k W) (hb:Below W.heap.size W W2):KZK w k W2:=⟨h.ks.below hb,(hb.block _ (J2.1 h.I).1).trans h.I⟩
theorem KZK.first {w:World} {k:eA} (h:eA.At w k):KZK w k ((w.alloc (.cells k.row 37)).alloc (.cells T9 37)):=
 ⟨(dr.first h).below ((Kp _ _).alloc (Ki _) _),heap_alloc2_new _ _ _⟩
theorem acB (k:eA) (id:Int) (g:Nat) (w:World) (hs:k.pure.Small) (hg:k.vb=some ⟨g,0,none⟩∧g < w.heap.size) (h:eA.At w k):
  Calls J3 19 #[.agg k.row,.int .i64 id] w fun e w'=>KRes w (abJ k.pure id) e w':=by
 have S:=aA (KZK.first h);have HF:=aA (And.intro hs hg);clear hs hg h
 go_enter Tryz.func19,Tryz.ntmps19
 go_upto_region 1 with fail;generalize (w.alloc (.cells k.row 37)).alloc (.cells T9 37)=W0 at *;obtain ⟨m0,m1,m2,m3,m4⟩:=S.I.ks.box.cells;have Mb:=FO k g W0 (Ug HF.I.1) ⟨HF.I.2.1,by have:=S.I.ks.low.size; have:=HF.I.2.2; omega⟩ S.I.ks.MT;go_wp2_with fail;clear m0 m1 m2 m3 m4;refine Mb.mono ?_;clear Mb;rintro e W1 ⟨rfl,hb1⟩;replace S:=aA (S.I.below hb1);clear hb1;cases hk:eP k.pure
 ·have HN:Hid (abJ k.pure id=none):=acv hk
  clear hk;go_wp2_with (refine stK 4 15 T9 S.I.I ?_);refine aaf Tryz.results19 (.bool false) S.I.I ?_;exact Zv HN.I (kz S.I.ks.low (by omega) _)
 have HK:=aA hk;clear hk;obtain ⟨m0,m1,m2,m3,m4⟩:=S.I.ks.box.cells;have Mb:=Ua k id W1 (Ug HF.I.1).sC S.I.ks.MT;go_wp2_with fail;clear m0 m1 m2 m3 m4;refine Mb.mono ?_;clear Mb;rintro e W2 ⟨rfl,hb1⟩;replace S:=aA (S.I.below hb1);clear hb1;rcases ua (num:=fun p:af=>p.id) id k.parts 0 with ⟨h1,h2⟩ | ⟨n,x,h1,hx,-,h2⟩
 ·have HN:Hid (abJ k.pure id=none):=acy (by show hP (fun p:aE=>p.id) id (k.parts.map (·.pure))=none; rw [WJ,h2]; rfl)
  rw [h1];clear h1 h2;go_wp2_with (refine stK 4 15 T9 S.I.I ?_);refine aaf Tryz.results19 (.bool false) S.I.I ?_;exact Zv HN.I (kz S.I.ks.low (by omega) _)
 have HN:Hid (abJ k.pure id=some { k.pure with parts:=abI id k.pure.parts k.pure.eC }):=acw HK.I (p:=x.pure) (by show hP (fun p:aE=>p.id) id (k.parts.map (·.pure))=_; rw [WJ,h2]; rfl);rw [h1];have i0: ¬ ((0+n:Nat):Int) < 0:=by omega
 clear h1 h2 hx;obtain ⟨m0,m1,m2,m3,m4⟩:=S.I.ks.box.cells;have Mb:=aaz k W2 (Ug HF.I.1) S.I.ks.MT;go_wp2_with fail;clear m0 m1 m2 m3 m4 i0;refine Mb.mono ?_;clear Mb;rintro e W3 ⟨k3,g3,rfl,Bn,wu,-,hb3⟩;have HO:Hid (gp W3 W2.heap.size k3∧k3.pure=k.pure∧W2.heap.size≤W3.heap.size∧w.heap.size+1 < W2.heap.size):=⟨Bn,wu,hb3.size,(J2.1 S.I.I).1⟩
 replace S:=aA (S.I.below hb3);clear Bn wu hb3;have Mb:=acP k3 id W2.heap.size W3 (by rw [HO.I.2.1]; exact HF.I.1) (by rw [HO.I.2.1,show k3.eC=k.pure.eC from congrArg kd.eC HO.I.2.1]; exact ab1 HK.I) (by rw [HO.I.2.1]; exact ab2 HK.I) HO.I.2.2.1 HO.I.1;go_wp2_with fail;refine Mb.mono ?_;clear Mb;rintro e W4 ⟨l,rfl,hL,hpl,hcr⟩;have HL:Hid (abx W3 W2.heap.size k3 l [] W4∧l.map (·.pure)=abI id k.pure.parts k.pure.eC):=⟨hL,by rw [hpl,HO.I.2.1,show k3.eC=k.pure.eC from congrArg kd.eC HO.I.2.1]⟩
 have hlow: ∀ b∈k3.Mc,W2.heap.size≤b:=fun b hb=>(HO.I.1.lt hb).1
 have hsz:=HO.I.2.2;have HW4:Hid (W4.heap[w.heap.size+1]? =some (.cells T9 37 (0,0))∧Below w.heap.size w W4):=⟨(hL.kept.same _ (by omega) fun hm=>by have:=hlow _ hm; omega).trans S.I.I,S.I.ks.low.trans (hL.kept.below S.I.ks.low.size fun b hb=>by have:=hlow b hb; omega)⟩
 clear hL hpl hcr hlow hsz;go_wp2_with (refine stK 4 19 k3.row HW4.I.1 ?_);refine aaf Tryz.results19 (.bool true) HW4.I.1 ?_;rw [HN.I];have hsz:=HO.I.2.2;refine ⟨k3.wp l,by rw [HL.I.1.row]; rfl,(HL.I.1.own.lower (by omega)).same fun b hb=>KH _ _ _ _ (by have:=(HL.I.1.own.lt hb).1; omega),?_,kz HW4.I.2 (by omega) _⟩
 show kd.mk k3.now k3.major k3.fn (l.map (·.pure)) k3.eC=kd.mk k.pure.now k.pure.major k.pure.fn (abI id k.pure.parts k.pure.eC) k.pure.eC
 rw [HL.I.2,← HO.I.2.1];rfl
end
section
open Go.RowKit Go.Maps
theorem acI {α:Type} {f:α→Bool} {g:α→α} : ∀ {l:List α},(∀ x,l.find? f=some x→g x=x)→abP f g l=l
 | [],_=>rfl
 | x :: r,h=>by
  simp only [abP];by_cases hx:f x=true
  ·rw [if_pos hx,h x (by rw [List.find?_cons_of_pos hx])]
  ·rw [if_neg hx,acI fun y hy=>h y (by rw [List.find?_cons_of_neg hx]; exact hy)]
theorem acL {ps:List aE} {part port:Int} {q:dS} (h:endP ps part port=some q):abK part port q.Ma ps=ps:=by
 refine acI fun p hp=> ?_
 unfold endP hP at h;rw [hp,Option.bind_some] at h;have e:abP (fun y:dS=>decide (y.id=port)) (abZ q.Ma) p.ai=p.ai:=acI fun y hy=>by
  rw [hy] at h;cases h;rfl
 unfold ab7;rw [e]
theorem acQ {l:List (aZ × Nat)} {part id:Int} {g:Nat} (h:kt l part id=some g): ∃ S o x,l.find? (fun p=>p.1.q.id == part)=some (S,o)∧S.lq.find? (fun p=>p.1.id == id)=some (x,g):=by
 unfold kt at h;cases hf:l.find? (fun p=>p.1.q.id == part) with
 | none=>rw [hf] at h; cases h
 | some p=>
  rw [hf] at h;have e3:cz (RW (fun x:aM=>x.id) p.1.lq) id=(p.1.lq.find? (fun p=>p.1.id == id)).map (·.2):=by
   unfold cz RW;rw [List.find?_map,Option.map_map];rfl
  have h':cz (RW (fun x:aM=>x.id) p.1.lq) id=some g:=h;rw [e3] at h';obtain ⟨q,hq,rfl⟩:=Option.map_eq_some_iff.1 h';exact ⟨p.1,p.2,q.1,rfl,hq⟩
theorem aci {l:List (aZ × Nat)} {part id:Int} {S:aZ} {o g:Nat} {x:aM} (h1:l.find? (fun p=>p.1.q.id == part)=some (S,o)) (h2:S.lq.find? (fun p=>p.1.id == id)=some (x,g)):endP (l.map (·.1.pure)) part id=some x.todS:=by
 have e1:hP (fun x:aE=>x.id) part (l.map (·.1.pure))=(l.find? (fun p=>p.1.q.id == part)).map (·.1.pure):=by
  unfold hP;rw [List.find?_map]
  congr 2
 have e2:hP (fun x:dS=>x.id) id (S.lq.map (·.1.todS))=(S.lq.find? (fun p=>p.1.id == id)).map (·.1.todS):=by
  unfold hP;rw [List.find?_map]
  congr 2
 unfold endP;rw [e1,h1]
 show hP (fun x:dS=>x.id) id (S.lq.map (·.1.todS))=_
 rw [e2,h2];rfl
theorem acX {α:Type} {R:α→α→Prop} (hs: ∀ a b,R a b→R b a): ∀ {l:List α},l.Pairwise R→ ∀ a∈l,∀ b∈l,a≠b→R a b
 | [],_,a,ha,_,_,_=>by cases ha
 | x :: r,h,a,ha,b,hb,hne=>by
  rw [List.pairwise_cons] at h;rcases Kt.1 ha with ea | ha'
  ·rcases Kt.1 hb with eb | hb'
   ·exact absurd (ea.trans eb.symm) hne
   ·rw [ea]; exact h.1 b hb'
  ·rcases Kt.1 hb with eb | hb'
   ·rw [eb]; exact hs _ _ (h.1 a ha')
   ·exact acX hs h.2 a ha' b hb' hne
section
variable {w w':World} {K b:Nat} {l:List (aZ × Nat)}
theorem VK.far (h:VK w K b l) {p q:aZ × Nat} (hp:p∈l) (hq:q∈l) (hne:p.2≠q.2): ∀ g∈p.1.all p.2,g∉q.1.all q.2:=fun g hg hg'=>
 acX (R:=fun p q:aZ × Nat=> ∀ g∈p.1.all p.2,∀ g'∈q.1.all q.2,g≠g') (fun _ _ h g hg g' hg' e=>h g' hg' g hg e.symm) h.apart p hp q hq (fun e=>hne (by rw [e])) g hg g hg' rfl
theorem acD {S:aZ} {o:Nat} :o∈S.all o:=by unfold aZ.all; simp
theorem VK.Mc (h:VK w K b l):(l.map (·.2)).Nodup:=by
 refine Qm.2 (h.apart.imp fun hR e=> ?_);exact hR _ acD _ (e ▸ acD) rfl
def SA (o1 o2:Nat) (S1 S2:aZ) (p:aZ × Nat):aZ × Nat:=if p.2=o1 then (S1,p.2) else if p.2=o2 then (S2,p.2) else p
theorem adh {o1 o2:Nat} {S1 S2:aZ} (hne:o1≠o2):l.map (SA o1 o2 S1 S2)=sU o1 (fun _=>S1) (sU o2 (fun _=>S2) l):=by
 unfold sU;rw [Lv];refine Lw fun p _=> ?_
 unfold SA;simp only [Function.comp];by_cases h2:p.2=o2
 ·have h1: ¬ p.2=o1:=fun e=>hne (e.symm.trans h2)
  simp only [h2,if_true]
 ·simp [h2]
end
theorem acm {S:aZ} {g:Nat} {x x':aM} {port:Int} {its:List ByteArray} (h2:S.lq.find? (fun p=>p.1.id == port)=some (x,g)) (hn:(S.lq.map (·.2)).Nodup) (hx:x'.todS=abZ its x.todS):(S.setPort g x').pure=ab7 port its S.pure:=by
 have e:=acd (num:=fun x:aM=>x.id) (adz:=fun q:dS=>q.id) (f:=fun x:aM=>x.todS) (g:=abZ its) (fun _=>rfl) hx h2 hn;unfold ab7 aZ.setPort aZ.pure;simp only;rw [← e]
theorem cJ.keep {w w':World} {base o:Nat} {S:aZ} (h:cJ w base o S) (hs: ∀ g∈S.all o,w'.heap[g]? =w.heap[g]?):cJ w' base o S:=by
 have hb: ∀ g,(g∈(S.q.bp :: S.lp.map (·.2))∨g∈(S.q.bs :: S.ls.map (·.2))∨g∈(S.q.be :: S.le.map (·.2))∨g∈(S.q.bb :: S.lb.map (·.2))∨g∈(S.q.bf :: S.lf.map (·.2))∨g∈(S.q.bq :: S.lq.map (·.2)))→w'.heap[g]? =w.heap[g]? :=fun g hg=>hs g (by unfold aZ.all aZ.boxes; simp only [Kt (a:=g) (b:=o),Kg]; exact .inr (.inl hg))
 have hk: ∀ g,(g∈kids aR S.lp∨g∈kids aC S.lf∨g∈kids aU S.lq)→w'.heap[g]? =w.heap[g]? :=fun g hg=>hs g (by unfold aZ.all aZ.kids; simp only [Kt (a:=g) (b:=o),Kg]; exact .inr (.inr hg))
 exact ⟨(hs o (by unfold aZ.all; simp)).trans h.opn,h.L8.same fun g hg=>hb g (.inl hg),h.aj.same fun g hg=>hb g (.inr (.inl hg)),h.L9.same fun g hg=>hb g (.inr (.inr (.inl hg))),h.ag.same fun g hg=>hb g (.inr (.inr (.inr (.inl hg)))),h.ae.same fun g hg=>hb g (.inr (.inr (.inr (.inr (.inl hg))))),h.ai.same fun g hg=>hb g (.inr (.inr (.inr (.inr (.inr hg))))),fun p hp=>(h.eI p hp).same fun g hg=>hk g (.inl (Lq.2 ⟨p,hp,hg⟩)),fun p hp=>(h.eE p hp).same fun g hg=>hk g (.inr (.inl (Lq.2 ⟨p,hp,hg⟩))),fun p hp=>(h.eR p hp).same fun g hg=>hk g (.inr (.inr (Lq.2 ⟨p,hp,hg⟩))),h.nodup,h.low⟩
theorem acF {α β:Type} {f g:α→List β} : ∀ {l:List α},(∀ x∈l,f x=g x)→l.flatMap f=l.flatMap g
 | [],_=>rfl
 | x :: r,h=>by rw [List.flatMap_cons,List.flatMap_cons,h x (by simp),acF fun y hy=>h y (by simp [hy])]
theorem adr {l:List (aZ × Nat)} {o1 o2:Nat} {S1 S2:aZ} {part:Int} (hg: ∀ p∈l,((if p.2=o2 then (S2,p.2) else p):aZ × Nat).1.q.id=p.1.q.id) (h:l.find? (fun p=>p.1.q.id == part)=some (S1,o1)) (hne:o1≠o2):(sU o2 (fun _=>S2) l).find? (fun p=>p.1.q.id == part)=some (S1,o1):=by
 induction l with
 | nil=>cases h
 | cons p r ih=>
  show ((if p.2=o2 then (S2,p.2) else p) :: sU o2 (fun _=>S2) r).find? _=_
  have h1:=hg p (by simp);by_cases hp:(p.1.q.id == part)=true
  ·rw [List.find?_cons_of_pos (p:=fun p:aZ × Nat=>p.1.q.id == part) hp] at h
   cases h;rw [List.find?_cons_of_pos (p:=fun p:aZ × Nat=>p.1.q.id == part) (by rw [h1]; exact hp),if_neg hne]
  ·rw [List.find?_cons_of_neg (p:=fun p:aZ × Nat=>p.1.q.id == part) hp] at h
   rw [List.find?_cons_of_neg (p:=fun p:aZ × Nat=>p.1.q.id == part) (by rw [h1]; exact hp)];exact ih (fun q hq=>hg q (List.mem_cons_of_mem _ hq)) h
theorem acq {w w':World} {base1 base2 g1 g2:Nat} {x y:aM} (h1:PBx w base1 g1 x) (h2:PBx w base2 g2 y) (hk:aI w w' (g1 :: g2 :: (blk x.ak ++ blk y.ak))) {g:Nat} {ob:Obj} (hg:w.heap[g]? =some ob) (hn: ∀ cs aaO,ob≠ .cells cs 85 aaO∧ob≠ .cells cs 9 aaO):w'.heap[g]? =some ob:=by
 have iH: ∀ {base:Nat} {z:aM} {q:Nat},PBx w base q z→g∉blk z.ak:=fun hz hm=>by
  rcases hz.mine.2 with ⟨h5,-⟩ | ⟨g',cap,cur,h5,-,h6,-⟩
  ·simp only [LD] at h5
   rw [h5.1] at hm;simp [blk] at hm
  ·simp only [LD] at h5
   rw [h5.1] at hm;simp [blk] at hm;rw [← hm,hg] at h6;exact (hn _ _).2 (KC h6)
 refine (hk.same g (J2.1 hg).1 fun hm=> ?_).trans hg;simp only [Kt,Kg] at hm;rcases hm with rfl | rfl | hm | hm
 ·have h5:=h1.box
  rw [hg] at h5;exact (hn _ _).1 (KC h5)
 ·have h5:=h2.box
  rw [hg] at h5;exact (hn _ _).1 (KC h5)
 ·exact iH h1 hm
 ·exact iH h2 hm
structure Carr (w w':World) (K b:Nat) (l l':List (aZ × Nat)) (c:eQ):Prop where
 prt:VK w' K b l'
 pure:l'.map (·.1.pure)=abM (l.map (·.1.pure)) c
 ai: ∀ part id,kt l' part id=kt l part id
 fits:(∀ p∈l,p.1.Fits)→ ∀ p∈l',p.1.Fits
 ids:(l'.map fun p=>(p.1.q.id,p.2))=l.map fun p=>(p.1.q.id,p.2)
theorem ac6 {l l':List (aZ × Nat)} (h:(l'.map fun p=>(p.1.q.id,RW (fun x:aM=>x.id) p.1.lq))=l.map fun p=>(p.1.q.id,RW (fun x:aM=>x.id) p.1.lq)) (part id:Int):kt l' part id=kt l part id:=by
 have key: ∀ m:List (aZ × Nat),kt m part id=((m.map fun p=>(p.1.q.id,RW (fun x:aM=>x.id) p.1.lq)).find? (fun p=>p.1 == part)).bind fun p=>cz p.2 id:=fun m=>by
  rw [List.find?_map];unfold kt
  show (match m.find? (fun p=>p.1.q.id == part) with | none=>none | some p=>_)=((m.find? (fun p=>p.1.q.id == part)).map _).bind _
  cases m.find? (fun p=>p.1.q.id == part) <;> rfl
 rw [key,key,h]
theorem adj {w w':World} {K b o1 o2 abn abC:Nat} {l:List (aZ × Nat)} {o:gi} {S1 S2:aZ} {x y:aM} {e:Ending} (hPx:VK w K b l) (hsd: ¬ o.c.src=o.c.dst) (hf1:l.find? (fun p=>p.1.q.id == o.c.src)=some (S1,o1)) (hq1:S1.lq.find? (fun p=>p.1.id == o.c.ga)=some (x,o.s)) (hf2:l.find? (fun p=>p.1.q.id == o.c.dst)=some (S2,o2)) (pv:S2.lq.find? (fun p=>p.1.id == o.c.hI)=some (y,o.t))
  (ha1:cJ w abn o1 S1) (hk1:K < abn) (ha2:cJ w abC o2 S2) (hk2:K < abC) (hC:ab8 w o x y abn abC e w'): ∃ l',Carr w w' K b l l' o.c:=by
 obtain ⟨-,x',y',hx',hy',abW,hkept,hkx,hky⟩:=hC;have m1:(S1,o1)∈l:=RG hf1;have m2:(S2,o2)∈l:=RG hf2;have i1:S1.q.id=o.c.src:=by have:=PS hf1; simpa using this
 have i2:S2.q.id=o.c.dst:=by have:=PS hf2; simpa using this
 have acU:(x,o.s)∈S1.lq:=RG hq1;have acT:(y,o.t)∈S2.lq:=RG pv;have hne:o1≠o2:=fun e=>by
  have hn:=hPx.Mc;have h5:=map_inj (f:=fun p:aZ × Nat=>p.2) hn m1 m2 e;cases h5;exact hsd (i1.symm.trans i2)
 have p1:PBx w abn o.s x:=⟨ha1.ai.box _ acU,ha1.eR _ acU⟩
 have p2:PBx w abC o.t y:=⟨ha2.ai.box _ acT,ha2.eR _ acT⟩
 have hxi:x'.todS=abZ x'.Ma x.todS∧y'.todS=abZ y'.Ma y.todS:=by
  unfold abO at abW
  split at abW
  ·have h1:=congrArg Prod.fst abW; have h2:=congrArg Prod.snd abW
   simp only at h1 h2;exact ⟨by rw [show x'.Ma=x'.todS.Ma from rfl,h1]; rfl,by rw [show y'.Ma=y'.todS.Ma from rfl,h2]; rfl⟩
  ·split at abW
   ·have h1:=congrArg Prod.fst abW; have h2:=congrArg Prod.snd abW
    simp only at h1 h2;exact ⟨by rw [show x'.Ma=x'.todS.Ma from rfl,h1]; rfl,by rw [show y'.Ma=y'.todS.Ma from rfl,h2]; rfl⟩
   ·have h1:=congrArg Prod.fst abW; have h2:=congrArg Prod.snd abW
    simp only at h1 h2;exact ⟨by rw [show x'.Ma=x'.todS.Ma from rfl,h1]; rfl,by rw [show y'.Ma=y'.todS.Ma from rfl,h2]; rfl⟩
 have a1: ∀ g∈S1.all o1,g < w.heap.size:=fun g hg=>(ha1.xy g hg).2
 have a2: ∀ g∈S2.all o2,g < w.heap.size:=fun g hg=>(ha2.xy g hg).2
 have inC: ∀ g,g∈o.s :: o.t :: (blk x.ak ++ blk y.ak)→g∈S1.all o1∨g∈S2.all o2:=fun g hg=>by
  simp only [Kt,Kg] at hg;rcases hg with rfl | rfl | hg | hg
  ·exact .inl (abb (Lr.2 ⟨_,acU,rfl⟩))
  ·exact .inr (abb (Lr.2 ⟨_,acT,rfl⟩))
  ·exact .inl (abR acU hg)
  ·exact .inr (abR acT hg)
 have f12: ∀ g∈S1.all o1,g∉S2.all o2:=hPx.far m1 m2 hne;have f21: ∀ g∈S2.all o2,g∉S1.all o1:=hPx.far m2 m1 hne.symm;obtain ⟨t1,t1b⟩:=ha1.port acU hx' (by rw [show x'.id=x'.todS.id from rfl,hxi.1]; rfl) (fun b hb hn hk=>hkept.same b (a1 b hb) fun hm=>by
  simp only [Kt,Kg] at hm;rcases hm with h5 | h5 | h5 | h5
  ·exact hn h5
  ·exact f12 b hb (h5 ▸ abb (Lr.2 ⟨_,acT,rfl⟩))
  ·exact hk h5
  ·exact f12 b hb (abR acT h5)) (fun b hb=> .inl (hkx b hb))
 obtain ⟨t2,t2b⟩:=ha2.port acT hy' (by rw [show y'.id=y'.todS.id from rfl,hxi.2]; rfl) (fun b hb hn hk=>hkept.same b (a2 b hb) fun hm=>by
  simp only [Kt,Kg] at hm;rcases hm with h5 | h5 | h5 | h5
  ·exact f21 b hb (h5 ▸ abb (Lr.2 ⟨_,acU,rfl⟩))
  ·exact hn h5
  ·exact f21 b hb (abR acU h5)
  ·exact hk h5) (fun b hb=>(hky b hb).imp_right fun h5 hm=>by have:=a2 b hm; omega)
 have q1:(S1.setPort o.s x').q=S1.q:=rfl;have q2:(S2.setPort o.t y').q=S2.q:=rfl;have kq1:RW (fun z:aM=>z.id) (S1.setPort o.s x').lq=RW (fun z:aM=>z.id) S1.lq:=Al (num:=fun z:aM=>z.id) (f:=fun _=>x') fun p hp e=>by rw [ha1.ai.one hp acU e]; show x'.id=x.id; rw [show x'.id=x'.todS.id from rfl,hxi.1]; rfl
 have kq2:RW (fun z:aM=>z.id) (S2.setPort o.t y').lq=RW (fun z:aM=>z.id) S2.lq:=Al (num:=fun z:aM=>z.id) (f:=fun _=>y') fun p hp e=>by rw [ha2.ai.one hp acT e]; show y'.id=y.id; rw [show y'.id=y'.todS.id from rfl,hxi.2]; rfl
 obtain ⟨F,hF⟩: ∃ F,F=SA o1 o2 (S1.setPort o.s x') (S2.setPort o.t y'):=⟨_,rfl⟩
 have one: ∀ p∈l,∀ q∈l,p.2=q.2→p=q:=fun p hp q hq e=>map_inj (f:=fun p:aZ × Nat=>p.2) hPx.Mc hp hq e
 have abi: ∀ p∈l,(p=(S1,o1)∧F p=(S1.setPort o.s x',o1))∨(p=(S2,o2)∧F p=(S2.setPort o.t y',o2))∨(p.2≠o1∧p.2≠o2∧F p=p):=fun p hp=>by
  rw [hF];unfold SA;by_cases h1:p.2=o1
  ·have:=one p hp _ m1 h1
   subst this;exact .inl ⟨rfl,by simp⟩
  ·by_cases h2:p.2=o2
   ·have:=one p hp _ m2 h2
    subst this;exact .inr (.inl ⟨rfl,by simp [h1]⟩)
   ·exact .inr (.inr ⟨h1,h2,by simp [h1,h2]⟩)
 have aaY: ∀ p∈l,∀ g∈(F p).1.all (F p).2,g∈p.1.all p.2∨(p.2=o2∧w.heap.size≤g):=fun p hp g hg=>by
  rcases abi p hp with ⟨rfl,e5⟩ | ⟨rfl,e5⟩ | ⟨-,-,e5⟩
  ·rw [e5] at hg
   rcases t1b g hg with h5 | h5
   ·exact .inl h5
   ·exact .inl (abR acU (hkx g h5))
  ·rw [e5] at hg
   rcases t2b g hg with h5 | h5
   ·exact .inl h5
   ·rcases hky g h5 with h6 | h6
    ·exact .inl (abR acT h6)
    ·exact .inr ⟨rfl,h6⟩
  ·rw [e5] at hg
   exact .inl hg
 have Ye:(l.map F).map (fun p=>(p.1.q.id,p.2))=l.map fun p=>(p.1.q.id,p.2):=by
  rw [Lv];refine Lw fun p hp=> ?_
  simp only [Function.comp];rcases abi p hp with ⟨rfl,e5⟩ | ⟨rfl,e5⟩ | ⟨-,-,e5⟩ <;> rw [e5] <;> rfl
 have hlq: ∀ p∈l,(F p).1.lq.map (·.2)=p.1.lq.map (·.2):=fun p hp=>by
  rcases abi p hp with ⟨rfl,e5⟩ | ⟨rfl,e5⟩ | ⟨-,-,e5⟩ <;> rw [e5]
  ·exact qb o.s (fun _=>x') S1.lq
  ·exact qb o.t (fun _=>y') S2.lq
 refine ⟨l.map F,⟨?_,fun p hp=> ?_,?_,hPx.kb,Kn hPx.k hkept.size,?_⟩,?_,ac6 ?_,fun hfit p hp=> ?_,Ye⟩
 ·rw [Ye]
  obtain ⟨ob,hob⟩: ∃ ob,w.heap[b]? =some ob:=⟨_,Array.getElem?_eq_getElem hPx.map.lt⟩
  refine hPx.map.same ((acq p1 p2 hkept hob fun cs aaO=> ?_).trans hob.symm);obtain ⟨es,clock,h5,-⟩:=hPx.map.1;rw [hob] at h5;cases h5;exact ⟨(fun h6=>by cases h6),fun h6=>by cases h6⟩
 ·obtain ⟨p0,hp0,rfl⟩:=Lr.1 hp
  rcases abi p0 hp0 with ⟨rfl,e5⟩ | ⟨rfl,e5⟩ | ⟨n1,n2,e5⟩
  ·rw [e5]; exact ⟨abn,hk1,t1⟩
  ·rw [e5]; exact ⟨abC,hk2,t2⟩
  ·rw [e5]
   obtain ⟨bs,h5,h6⟩:=hPx.part p0 hp0;refine ⟨bs,h5,h6.keep fun g hg=>hkept.same g (h6.xy g hg).2 fun hm=> ?_⟩;rcases inC g hm with h7 | h7
   ·exact hPx.far hp0 m1 n1 g hg h7
   ·exact hPx.far hp0 m2 n2 g hg h7
 ·have e5:(l.map F).flatMap (fun p=>p.1.lq.map (·.2))=l.flatMap fun p=>p.1.lq.map (·.2):=by
   rw [List.flatMap_map];exact acF fun p hp=>hlq p hp
  rw [e5];exact hPx.nodup
 ·refine Qm.2 (hPx.apart.imp_of_mem fun {p q} hp hq hR g hg g' hg' e=> ?_)
  subst e;rcases aaY p hp g hg with h5 | ⟨h5,h6⟩
  ·rcases aaY q hq g hg' with h7 | ⟨h7,h8⟩
   ·exact hR g h5 g h7 rfl
   ·obtain ⟨bs,-,h9⟩:=hPx.part p hp
    have:=(h9.xy g h5).2
    omega
  ·rcases aaY q hq g hg' with h7 | ⟨h7,h8⟩
   ·obtain ⟨bs,-,h9⟩:=hPx.part q hq
    have:=(h9.xy g h7).2
    omega
   ·have e9:=one p hp q hq (h5.trans h7.symm)
    subst e9;exact hR _ acD _ acD rfl
 ·have hpure:(l.map F).map (·.1.pure)=abK o.c.src o.c.ga x'.Ma (abK o.c.dst o.c.hI y'.Ma (l.map (·.1.pure))):=by
   rw [hF,adh hne];have hb2:((sU o2 (fun _=>S2.setPort o.t y') l).map (·.2)).Nodup:=by rw [qb]; exact hPx.Mc
   have hf1':(sU o2 (fun _=>S2.setPort o.t y') l).find? (fun p=>p.1.q.id == o.c.src)=some (S1,o1):=by
    have hg: ∀ p∈l,((if p.2=o2 then (S2.setPort o.t y',p.2) else p):aZ × Nat).1.q.id=p.1.q.id:=fun p hp=>by
     split
     ·rename_i h5
      have:=one p hp _ m2 h5
      subst this;rfl
     ·rfl
    exact adr hg hf1 (fun e=>hne e)
   rw [acd (num:=fun S:aZ=>S.q.id) (adz:=fun q:aE=>q.id) (f:=aZ.pure) (g:=ab7 o.c.ga x'.Ma) (fun _=>rfl) (acm hq1 (Lp.1 ha1.ai.nodup).2 hxi.1) hf1' hb2];rw [acd (num:=fun S:aZ=>S.q.id) (adz:=fun q:aE=>q.id) (f:=aZ.pure) (g:=ab7 o.c.hI y'.Ma) (fun _=>rfl) (acm pv (Lp.1 ha2.ai.nodup).2 hxi.2) hf2 hPx.Mc];rfl
  rw [hpure];have e1:=aci hf1 hq1;have e2:=aci hf2 pv;unfold abM;rw [e1,e2];simp only;unfold abO at abW
  split at abW
  ·rename_i hq
   rw [if_pos hq];have h1:=congrArg (fun z=>z.1.Ma) abW; have h2:=congrArg (fun z=>z.2.Ma) abW;simp only at h1 h2;rw [show x'.Ma=_ from h1,show y'.Ma=_ from h2];rfl
  ·rename_i hq
   rw [if_neg hq]
   split at abW
   ·rename_i hz
    rw [if_pos hz];have h1:=congrArg (fun z=>z.1.Ma) abW; have h2:=congrArg (fun z=>z.2.Ma) abW;simp only at h1 h2;rw [show x'.Ma=x.todS.Ma from h1,show y'.Ma=y.todS.Ma from h2,acL e2,acL e1]
   ·rename_i hz
    rw [if_neg hz];have h1:=congrArg (fun z=>z.1.Ma) abW; have h2:=congrArg (fun z=>z.2.Ma) abW;simp only at h1 h2;rw [show x'.Ma=x.todS.Ma from h1,show y'.Ma=_ from h2];have e3:endP (abK o.c.dst o.c.hI (abZ (x.Ma.take 1) y.todS).Ma (l.map (·.1.pure))) o.c.src o.c.ga=some x.todS:=by rw [acS,if_neg (fun h=>hsd h.1),e1]
    exact acL e3
 ·rw [Lv]
  refine Lw fun p hp=> ?_
  simp only [Function.comp];rcases abi p hp with ⟨rfl,e5⟩ | ⟨rfl,e5⟩ | ⟨-,-,e5⟩ <;> rw [e5]
  ·show (S1.q.id,RW _ (S1.setPort o.s x').lq)=_
   rw [kq1]
  ·show (S2.q.id,RW _ (S2.setPort o.t y').lq)=_
   rw [kq2]
 ·obtain ⟨p0,hp0,rfl⟩:=Lr.1 hp
  have h5:=hfit p0 hp0;rcases abi p0 hp0 with ⟨rfl,e5⟩ | ⟨rfl,e5⟩ | ⟨-,-,e5⟩ <;> rw [e5]
  ·exact ⟨h5.dl,h5.Jl,h5.fx,h5.adG,h5.cD,h5.G4,h5.cC,h5.FP,h5.cb,h5.DW,by show (sU o.s (fun _=>x') S1.lq).length≤_; unfold sU; rw [KG]; exact h5.dH,by rw [kq1]; exact h5.Jz⟩
  ·exact ⟨h5.dl,h5.Jl,h5.fx,h5.adG,h5.cD,h5.G4,h5.cC,h5.FP,h5.cb,h5.DW,by show (sU o.t (fun _=>y') S2.lq).length≤_; unfold sU; rw [KG]; exact h5.dH,by rw [kq2]; exact h5.Jz⟩
  ·exact h5
end
section
open Go.RowKit Go.Maps
attribute [local go_sem ↓] Kc Kd
structure Y7 (w:World) (K b:Nat) (now:Int) (tab:Array Value) (a:Option Addr) (cap B:Nat) (ls:List gi) (l:List (aZ × Nat)) (W:World):Prop where
 prt:VK W K b l
 TN:W.rowIs K 107 65 (B3 now tab b a ls.length cap)
 own:W.ownsRow B 205 6 (.slice a ls.length cap) ls.length (qo.flat ls)
 adb: ∀ o∈ls,Joins l o
 fits: ∀ p∈l,p.1.Fits
 low:Below K w W
section
variable {w W V:World} {K b cap B:Nat} {now:Int} {tab:Array Value} {a:Option Addr} {ls:List gi} {l:List (aZ × Nat)}
theorem VK.below (h:VK W K b l) (hb:Below W.heap.size W V):VK V K b l:=⟨h.map.below hb,fun p hp=>by
 obtain ⟨bs,h1,h2⟩:=h.part p hp;exact ⟨bs,h1,h2.keep fun g hg=>hb.block g (h2.xy g hg).2⟩,h.nodup,h.kb,Kn h.k hb.size,h.apart⟩
theorem Y7.below (h:Y7 w K b now tab a cap B ls l W) (hb:Below W.heap.size W V):Y7 w K b now tab a cap B ls l V:=
 ⟨h.prt.below hb,h.TN.of_block (hb.block _ h.TN.lt),cR h.own hb,h.adb,h.fits,h.low.trans (hb.mono (Nat.le_of_lt h.prt.k))⟩
theorem Y7.carried {l':List (aZ × Nat)} {o:gi} {x y:aM} {abn abC:Nat} {e:Ending} (h:Y7 w K b now tab a cap B ls l W) (hc:Carr W V K b l l' o.c) (p1:PBx W abn o.s x) (p2:PBx W abC o.t y) (hC:ab8 W o x y abn abC e V) (hK: ∀ g∈o.s :: o.t :: (blk x.ak ++ blk y.ak),K < g):Y7 w K b now tab a cap B ls l' V:=by
 obtain ⟨-,x',y',-,-,-,hk,-,-⟩:=hC;refine ⟨hc.prt,?_,?_,fun q hq=>⟨by rw [hc.ai]; exact (h.adb q hq).1,by rw [hc.ai]; exact (h.adb q hq).2⟩,hc.fits h.fits,h.low.trans (hk.below (Nat.le_of_lt h.prt.k) fun g hg=>Nat.le_of_lt (hK g hg))⟩
 ·obtain ⟨c,h1,h2⟩:=h.TN
  have h5: ∀ (cs:Array Value) (aaO:Nat × Nat),Obj.cells c 107 (0,0)≠ .cells cs 85 aaO∧Obj.cells c 107 (0,0)≠ .cells cs 9 aaO:=fun cs aaO=>⟨(fun e=>by simp at e),fun e=>by simp at e⟩
  exact ⟨c,acq p1 p2 hk h1 h5,h2⟩
 ·refine ⟨h.own.1,?_⟩
  rcases h.own.2 with h1 | ⟨g,cp,cur,h1,h2,h3,h4⟩
  ·exact .inl h1
  ·have h5: ∀ (cs:Array Value) (aaO:Nat × Nat),Obj.cells cur 205 (0,0)≠ .cells cs 85 aaO∧Obj.cells cur 205 (0,0)≠ .cells cs 9 aaO:=fun cs aaO=>⟨(fun e=>by simp at e),fun e=>by simp at e⟩
   exact .inr ⟨g,cp,cur,h1,h2,acq p1 p2 hk h3 h5,h4⟩
end
theorem ac4 {W:World} {K b:Nat} {l:List (aZ × Nat)} {o:gi} {ps0:List aE} (hPx:VK W K b l) (hJ:Joins l o) (hcr:abz ps0 (l.map (·.1.pure))) (hc:pa ps0 o.c=true): ∃ (S1 S2:aZ) (o1 o2:Nat) (x y:aM) (abn abC:Nat),l.find? (fun p=>p.1.q.id == o.c.src)=some (S1,o1)∧S1.lq.find? (fun p=>p.1.id == o.c.ga)=some (x,o.s)∧l.find? (fun p=>p.1.q.id == o.c.dst)=some (S2,o2)∧S2.lq.find? (fun p=>p.1.id == o.c.hI)=some (y,o.t)∧cJ W abn o1 S1∧K < abn∧cJ W abC o2 S2∧K < abC∧PBx W abn o.s x∧PBx W abC o.t y∧LkF W o x y abn abC∧ ¬ o.c.src=o.c.dst∧ ∀ g∈o.s :: o.t :: (blk x.ak ++ blk y.ak),K < g:=by
 obtain ⟨S1,o1,x,hf1,hq1⟩:=acQ hJ.1;obtain ⟨S2,o2,y,hf2,pv⟩:=acQ hJ.2;have m1:(S1,o1)∈l:=RG hf1;have m2:(S2,o2)∈l:=RG hf2;have i1:S1.q.id=o.c.src:=by have:=PS hf1; simpa using this
 have i2:S2.q.id=o.c.dst:=by have:=PS hf2; simpa using this
 obtain ⟨s,t,hs,ht,-,hsd,px,abw⟩:=hcr.ends hc;rw [aci hf1 hq1] at hs;rw [aci hf2 pv] at ht;cases hs;cases ht;obtain ⟨abn,hk1,ha1⟩:=hPx.part _ m1;obtain ⟨abC,hk2,ha2⟩:=hPx.part _ m2;have q1:(x,o.s)∈S1.lq:=RG hq1;have q2:(y,o.t)∈S2.lq:=RG pv;have hne:o1≠o2:=fun e=>by
  have h5:=map_inj (f:=fun p:aZ × Nat=>p.2) hPx.Mc m1 m2 e;cases h5;exact hsd (i1.symm.trans i2)
 have f12: ∀ g∈S1.all o1,g∉S2.all o2:=hPx.far m1 m2 hne;have b1:o.s∈S1.all o1:=abb (Lr.2 ⟨_,q1,rfl⟩);have b2:o.t∈S2.all o2:=abb (Lr.2 ⟨_,q2,rfl⟩);have ads: ∀ {S:aZ} {abA bb g:Nat} {z:aM},cJ W bb abA S→(z,g)∈S.lq→ ∀ c∈blk z.ak,c≠g:=fun {S abA bb g z} ha hz c hc e=>by
  have hn:(abA :: (S.boxes ++ S.kids)).Nodup:=ha.nodup;have h2:=List.nodup_append.1 (Lp.1 hn).2;have hg:g∈S.boxes:=by
   unfold aZ.boxes;simp only [Kg,Kt];exact .inr (.inr (.inr (.inr (.inr (.inr (Lr.2 ⟨_,hz,rfl⟩))))))
  have hkd:c∈S.kids:=by
   unfold aZ.kids;simp only [Kg];exact .inr (.inr (Lq.2 ⟨_,hz,fZ.1 hc⟩))
  exact h2.2.2 g hg c hkd e.symm
 have p1:PBx W abn o.s x:=⟨ha1.ai.box _ q1,ha1.eR _ q1⟩
 have p2:PBx W abC o.t y:=⟨ha2.ai.box _ q2,ha2.eR _ q2⟩
 refine ⟨S1,S2,o1,o2,x,y,abn,abC,hf1,hq1,hf2,pv,ha1,hk1,ha2,hk2,p1,p2,⟨fun e=>f12 _ b1 (e ▸ b2),fun g hg=>⟨fun hg'=>f12 g (abR q1 hg) (abR q2 hg'),ads ha1 q1 g hg,fun e=>f12 g (abR q1 hg) (e ▸ b2)⟩,fun g hg=>⟨fun e=>f12 _ b1 (e ▸ abR q2 hg),ads ha2 q2 g hg⟩,⟨?_,?_⟩,px,abw,(ha1.xy _ b1).2,(ha2.xy _ b2).2⟩,hsd,fun g hg=> ?_⟩
 ·have:=ha1.xy _ b1; omega
 ·have:=ha2.xy _ b2; omega
 ·simp only [Kt,Kg] at hg
  rcases hg with rfl | rfl | hg | hg
  ·have:=(ha1.xy _ b1).1; omega
  ·have:=(ha2.xy _ b2).1; omega
  ·have:=(ha1.xy _ (abR q1 hg)).1; omega
  ·have:=(ha2.xy _ (abR q2 hg)).1; omega
def KCEnd (w:World) (K b:Nat) (now:Int) (tab:Array Value) (a:Option Addr) (cap B:Nat) (ls:List gi) (l:List (aZ × Nat)) (ps0:List aE) (src:Int) (e:Ending) (W:World):Prop:=e= .returned (.tuple #[])∧ ∃ l',Y7 w K b now tab a cap B ls l' W∧l'.map (·.1.pure)=abI src (l.map (·.1.pure)) (ls.map (·.c))∧abz ps0 (l'.map (·.1.pure))∧(l'.map fun p=>(p.1.q.id,p.2))=l.map fun p=>(p.1.q.id,p.2)
theorem ac2 (K b:Nat) (now:Int) (tab:Array Value) (a:Option Addr) (cap B:Nat) (ls:List gi) (l:List (aZ × Nat)) (ps0:List aE) (src:Int) (w:World) (h:Y7 w K b now tab a cap B ls l w) (hch: ∀ o∈ls,pa ps0 o.c=true) (hcr:abz ps0 (l.map (·.1.pure))) (hl:ls.length≤10):
  Calls J3 71 #[.pointer (some ⟨K,0,none⟩),.int .i64 src] w fun e W=>KCEnd w K b now tab a cap B ls l ps0 src e W:=by
 have c64:w.cell? ⟨K,64,none⟩=some (.slice a ls.length cap):=h.TN.cell (i:=64) (by omega);have HH:=aA (And.intro h (And.intro hch hcr));clear h hch hcr
 go_enter Tryz.func71,Tryz.ntmps71
 go_wp2_with fail;clear c64
 go_loopw [11] (fun i wr=> ∃ n:Nat,n≤ls.length∧i= .int .i64 n∧ ∃ l1:List (aZ × Nat),Hid (Y7 w K b now tab a cap B ls l1 wr∧l1.map (·.1.pure)=abI src (l.map (·.1.pure)) ((ls.map (·.c)).take n)∧abz ps0 (l1.map (·.1.pure))∧(l1.map fun p=>(p.1.q.id,p.2))=l.map fun p=>(p.1.q.id,p.2))) (fun i _=>ls.length - (Go.RowKit.intOf i).toNat)
 case atStart=>exact ⟨0,Ky _,rfl,l,HH.I.1,rfl,HH.I.2.2,rfl⟩
 case round=>
  obtain ⟨n,hn,rfl,l1,S⟩:=hrel;by_cases hlt:n < ls.length
  ·have i0:(0:Int)≤(n:Int):=by omega
   have i1:(n:Int) < (ls.length:Int):=by omega
   obtain ⟨o,ho⟩: ∃ o,ls[n]? =some o:=⟨_,List.getElem?_eq_getElem hlt⟩
   obtain ⟨gl,hgl,k0,k1,k2,k3,k4,k5⟩:=Vq (nP S.I.1.own) ho;have HO:=aA ho;have HSN:Hid (abI src (l.map (·.1.pure)) ((ls.map (·.c)).take (n+1))=if o.c.src=src then abM (l1.map (·.1.pure)) o.c else l1.map (·.1.pure)):=by
    show _=_
    rw [ace (c:=o.c) (by rw [List.getElem?_map,ho]; rfl),← S.I.2.1]
   subst hgl;clear ho;have hz:Below wr.heap.size wr (wr.alloc (.cells (fz o) 205)):=(Kp _ _).alloc (Ki _) _;have S1:Hid (Y7 w K b now tab (some ⟨gl,0,none⟩) cap B ls l1 (wr.alloc (.cells (fz o) 205))):=S.I.1.below hz;have HX:Hid ((wr.alloc (.cells (fz o) 205)).heap[wr.heap.size]? =some (.cells (fz o) 205 (0,0))):=heap_alloc_new _ _;have HP:=aA S.I.2;clear S hz;go_upto_region 3 with fail;clear k0 k1 k2 k3 k4 k5;generalize wr.alloc (.cells (fz o) 205)=W1 at *;generalize wr.heap.size=X at *;have hxx:=HX.I;have d0:W1.cell? ⟨X,0,none⟩=some (.int .i64 o.c.src):=by simp [World.cell?,hxx]
   have d1:W1.cell? ⟨X,1,none⟩=some (.int .i64 o.c.ga):=by simp [World.cell?,hxx]
   have d2:W1.cell? ⟨X,2,none⟩=some (.int .i64 o.c.dst):=by simp [World.cell?,hxx]
   have d3:W1.cell? ⟨X,3,none⟩=some (.int .i64 o.c.hI):=by simp [World.cell?,hxx]
   have d4:W1.cell? ⟨X,4,none⟩=some (.pointer (some ⟨o.s,0,none⟩)):=by simp [World.cell?,hxx]
   have d5:W1.cell? ⟨X,5,none⟩=some (.pointer (some ⟨o.t,0,none⟩)):=by simp [World.cell?,hxx]
   clear hxx;by_cases hne: ¬ o.c.src=src
   ·have Jf:Hid (abI src (l.map (·.1.pure)) ((ls.map (·.c)).take (n+1))=l1.map (·.1.pure)):=by show _=_; rw [HSN.I,if_neg hne]
    clear HSN;go_wp2;go_roundw
    case rel=>exact ⟨n+1,by omega,by go_num,l1,S1.I,Jf.I.symm,HP.I.2⟩
    case measure=>simp [Go.RowKit.intOf]; omega
   ·have hsrc:o.c.src=src:=Decidable.not_not.1 hne
    have Jf:Hid (abI src (l.map (·.1.pure)) ((ls.map (·.c)).take (n+1))=abM (l1.map (·.1.pure)) o.c):=by show _=_; rw [HSN.I,if_pos hsrc]
    have hb:(o.c.src == src)=true:=by rw [hsrc]; simp
    have hom:o∈ls:=List.mem_of_getElem? HO.I;obtain ⟨aaD,abH,o1,o2,x,y,abn,abC,hf1,hq1,hf2,pv,ha1,hk1,ha2,hk2,p1,p2,hf,hsd,hK⟩:=ac4 S1.I.prt (S1.I.adb o hom) HP.I.2.1 (HH.I.2.1 o hom);have HF:Hid (l1.find? (fun p=>p.1.q.id == o.c.src)=some (aaD,o1)∧aaD.lq.find? (fun p=>p.1.id == o.c.ga)=some (x,o.s)∧l1.find? (fun p=>p.1.q.id == o.c.dst)=some (abH,o2)∧abH.lq.find? (fun p=>p.1.id == o.c.hI)=some (y,o.t)∧cJ W1 abn o1 aaD∧K < abn∧cJ W1 abC o2 abH∧K < abC∧PBx W1 abn o.s x∧PBx W1 abC o.t y∧ ¬ o.c.src=o.c.dst∧ ∀ g∈o.s :: o.t :: (blk x.ak ++ blk y.ak),K < g):=⟨hf1,hq1,hf2,pv,ha1,hk1,ha2,hk2,p1,p2,hsd,hK⟩
    have Mb:=acN o x y abn abC W1 p1 p2 hf;have HOM:=aA hom;have hde:decide (o.c.src=src)=true:=decide_eq_true hsrc;clear HSN hne hf1 hq1 hf2 pv ha1 hk1 ha2 hk2 p1 p2 hf hsd hK hom hsrc;go_wp2_with fail;clear d0 d1 d2 d3 d4 d5 hb hde;refine Mb.mono ?_;clear Mb;rintro e W2 hC;have he:e= .returned (.tuple #[]):=hC.1;obtain ⟨l2,hl2⟩:=adj S1.I.prt HF.I.2.2.2.2.2.2.2.2.2.2.1 HF.I.1 HF.I.2.1 HF.I.2.2.1 HF.I.2.2.2.1 HF.I.2.2.2.2.1 HF.I.2.2.2.2.2.1 HF.I.2.2.2.2.2.2.1 HF.I.2.2.2.2.2.2.2.1 hC;have S2:Hid (Y7 w K b now tab (some ⟨gl,0,none⟩) cap B ls l2 W2∧l2.map (·.1.pure)=abM (l1.map (·.1.pure)) o.c∧(l2.map fun p=>(p.1.q.id,p.2))=l1.map fun p=>(p.1.q.id,p.2)):=⟨S1.I.carried hl2 HF.I.2.2.2.2.2.2.2.2.1 HF.I.2.2.2.2.2.2.2.2.2.1 hC HF.I.2.2.2.2.2.2.2.2.2.2.2,hl2.pure,hl2.ids⟩
    have HC2:Hid (abz ps0 (l2.map (·.1.pure))):=by show abz _ _; rw [S2.I.2.1]; exact HP.I.2.1.carry (HH.I.2.1 o HOM.I)
    subst he;clear hC hl2 S1 HF HX;go_wp2;go_roundw
    case rel=>exact ⟨n+1,by omega,by go_num,l2,S2.I.1,S2.I.2.1.trans Jf.I.symm,HC2.I,S2.I.2.2.trans HP.I.2.2⟩
    case measure=>simp [Go.RowKit.intOf]; omega
  ·have i1: ¬ (n:Int) < (ls.length:Int):=by omega
   have ek:n=ls.length:=by omega
   subst ek;go_wp2
   go_end0
   refine ⟨rfl,l1,S.I.1,?_,S.I.2.2⟩;have h5:=S.I.2.1;rw [List.take_of_length_le (by simp)] at h5;exact h5
end
section
open Go.RowKit
theorem adx {l:List dS} (h: ∀ q∈l,q.Ma.length≤5):g9 (fun x:dS=>x.Ma.length) l≤5 * l.length:=by
 induction l with
 | nil=>simp [g9]
 | cons x r ih=>
  have h1:=h x (by simp);have h2:=ih fun q hq=>h q (by simp [hq])
  simp only [g9,Lt,List.sum_cons,List.length_cons] at h2 ⊢;omega
theorem acZ {p p0:aE} (e:abQ p0=abQ p) (h: ∀ q∈p.ai,dj q=true):p.total≤6 * p0.total:=by
 have e1:p.L8=p0.L8:=(congrArg aE.L8 e).symm;have e2:p.aj=p0.aj:=(congrArg aE.aj e).symm;have e3:p.L9=p0.L9:=(congrArg aE.L9 e).symm;have e4:p.ag=p0.ag:=(congrArg aE.ag e).symm;have e5:p.ae=p0.ae:=(congrArg aE.ae e).symm;have e6:p.ai.map abL=p0.ai.map abL:=(congrArg aE.ai e).symm;have e7:p.ai.length=p0.ai.length:=by have:=congrArg List.length e6; simpa using this
 have h5:=adx (l:=p.ai) fun q hq=>by have h6:=abT (h q hq); omega
 unfold aE.total;rw [e1,e2,e3,e4,e5];omega
theorem ach: ∀ {l l0:List aE},l.map abQ=l0.map abQ→(∀ p∈l,∀ q∈p.ai,dj q=true)→g9 aE.total l≤6 * g9 aE.total l0
 | [],[],_,_=>by simp [g9]
 | [],y :: r,h,_=>by simp at h
 | x :: r,[],h,_=>by simp at h
 | x :: r,y :: t,h,hq=>by
  rw [Lt,Lt,List.cons.injEq] at h;have h1:=acZ h.1.symm (hq x (by simp));have h2:=ach h.2 fun p hp=>hq p (by simp [hp])
  simp only [g9,Lt,List.sum_cons] at h1 h2 ⊢;omega
theorem acO {k:kd} {id:Int} (h:k.Small):((abJ k id).getD ZG).Small∧((abJ k id).getD ZG).total≤7 * k.total:=by
 unfold abJ
 split
 ·rename_i hk
  have hc:abz k.parts (abI id k.parts k.eC):=abz.all (abz.refl (ab2 hk.1)) (ab1 hk.1);refine ⟨ac0 h hc,?_⟩;have h5:=ach hc.acE hc.right;have h6:(abI id k.parts k.eC).length=k.parts.length:=by have:=congrArg List.length hc.acE; simpa using this
  show kd.total { k with parts:=abI id k.parts k.eC } ≤_
  simp only [kd.total];rw [h6];omega
 ·exact ⟨aam,by show ZG.total≤_; exact Nat.le_trans (by decide) (Ky _)⟩
end
section
open Go.RowKit Go.Maps
attribute [local go_sem ↓] Kc Kd
theorem ab5 (k:eA) (id:Int) (g base:Nat) (w:World) (hid:(Lit.int .i64 id).wf=true) (hs:k.pure.Small) (ho:gp w base k) (hg:k.vb=some ⟨g,0,none⟩∧g < w.heap.size):
  Calls J3 20 #[.agg k.row,.int .i64 id] w fun e w'=>KRes w (abJ k.pure id) e w':=by
 have S:=aA (KZK.first ho.at);have hz:Below w.heap.size w ((w.alloc (.cells k.row 37)).alloc (.cells T9 37)):=((Kp _ _).alloc (Ki _) _).alloc (by simp) _;have Mb:=Pq k g ((w.alloc (.cells k.row 37)).alloc (.cells T9 37)) hs (ho.at.below hz) (fun p hp=>(U7 hs ho p hp).below hz) ⟨hg.1,by have:=hz.size; omega⟩;have HI:=aA hid;clear hid hs ho hg hz
 go_enter Tryz.func20,Tryz.ntmps20
 go_upto_region 1 with fail;generalize (w.alloc (.cells k.row 37)).alloc (.cells T9 37)=W0 at *;obtain ⟨m0,m1,m2,m3,m4⟩:=S.I.ks.box.cells;go_wp2_with fail;clear m0 m1 m2 m3 m4;refine Mb.mono ?_;clear Mb;rintro e W1 ⟨hb1,⟨hno,rfl⟩ | ⟨fm,K,rfl,hK⟩⟩
 ·have HN:Hid (abJ k.pure id=none):=acv hno
  replace S:=aA (S.I.below hb1);clear hno hb1;go_wp2_with (refine stK 4 17 T9 S.I.I ?_);refine aaf Tryz.results20 (.bool false) S.I.I ?_;exact Zv HN.I (kz S.I.ks.low (by omega) _)
 obtain ⟨b,tab,l,ls,a,cap,B,ht,hJ⟩:=adR fm hK;have HT:=aA ht;have HY:=aA (And.intro fm hJ);have HW0:=aA (J2.1 S.I.I).1;have HP:Hid (hP (fun p:aE=>p.id) id k.pure.parts=(l.find? (fun p=>p.1.q.id == id)).map (·.1.pure)):=by
  show _=_
  rw [← ht.pure];unfold hP;rw [List.find?_map]
  congr 2
 replace S:=aA (S.I.below hb1);have c63:W1.cell? ⟨K,63,none⟩=some (.map (some b)):=ht.TN.cell (i:=63) (by omega);have hlk:=ht.prt.map.look Tryz.underlying104 (TQ W1) HI.I true;rw [Tf] at hlk;simp only [if_true] at hlk;clear fm hK hJ ht hb1 HI;cases hf:l.find? (fun p=>p.1.q.id == id) with
 | none=>
  have HN:Hid (abJ k.pure id=none):=acy (by rw [HP.I,hf]; rfl);rw [hf] at hlk;simp only [Option.map_none,Option.isSome_none,qz] at hlk;clear hf HP;go_wp2_with (refine stK 4 29 T9 S.I.I ?_);refine aaf Tryz.results20 (.bool false) S.I.I ?_;exact Zv HN.I (kz S.I.ks.low (by omega) _)
 | some q=>
  have HN:Hid (abJ k.pure id=some { k.pure with parts:=abI id k.pure.parts k.pure.eC }):=acw HY.I.1 (p:=q.1.pure) (by rw [HP.I,hf]; rfl);rw [hf] at hlk;simp only [Option.map_some,Option.isSome_some,qz,dt] at hlk;have HCK:Hid (Y7 W1 K b k.pure.now tab a cap B ls l W1):=⟨HT.I.prt,HT.I.TN,HT.I.own,HY.I.2,HT.I.fits,Kp _ _⟩
  have Mb:=ac2 K b k.pure.now tab a cap B ls l k.pure.parts id W1 HCK.I (fun o ho=>ab1 HY.I.1 o.c (by rw [← HT.I.eC]; exact Lr.2 ⟨o,ho,rfl⟩)) (by rw [HT.I.pure]; exact abz.refl (ab2 HY.I.1)) HT.I.short.2;clear hf HP;go_wp2_with fail;clear c63 hlk;refine Mb.mono ?_;clear Mb;rintro e W2 ⟨rfl,l2,hC,hp2,hcr,hid2⟩;have hlo:=HT.I.lo;have hw0:=HW0.I;have mO:Hid (Below w.heap.size w W2∧W2.heap[w.heap.size+1]? =some (.cells T9 37 (0,0))):=⟨S.I.ks.low.trans (hC.low.mono (by omega)),(hC.low.block _ (by omega)).trans S.I.I⟩
  have hlen:l2.length=l.length:=by have:=congrArg List.length hid2; simpa using this
  have xD:Hid (abE { k.pure with parts:=abI id k.pure.parts k.pure.eC } W0.heap.size K b tab l2 ls a cap B W2):=by
   refine ⟨HT.I.aaq,HT.I.fn,hC.prt,?_,HT.I.eC,hC.TN,hC.own,hC.fits,⟨by rw [hlen]; exact HT.I.short.1,HT.I.short.2⟩,HT.I.lo,fun p hp=> ?_⟩
   ·rw [hp2,HT.I.pure,HT.I.eC]
   ·have hm:(p.1.q.id,p.2)∈l.map fun p=>(p.1.q.id,p.2):=by rw [← hid2]; exact Lr.2 ⟨p,hp,rfl⟩
    obtain ⟨p0,hp0,e0⟩:=Lr.1 hm;have h5:=HT.I.wf p0 hp0;rw [show p.1.q.id=p0.1.q.id from (congrArg Prod.fst e0).symm];exact h5
  have Mb:=ZX _ W0.heap.size K b tab l2 ls a cap B W2 xD.I;clear hC hp2 hcr hid2 hlen hlo hw0;go_wp2_with fail;refine Mb.mono ?_;clear Mb;rintro e W3 ⟨k3,rfl,Bn,wu,hb3⟩;have EU:Hid (Below w.heap.size w W3∧W3.heap[w.heap.size+1]? =some (.cells T9 37 (0,0))∧gp W3 W0.heap.size k3∧k3.pure= { k.pure with parts:=abI id k.pure.parts k.pure.eC }):=⟨mO.I.1.trans (hb3.mono mO.I.1.size),(hb3.block _ (J2.1 mO.I.2).1).trans mO.I.2,Bn,wu⟩
  clear Bn wu hb3;go_wp2_with (refine stK 4 34 k3.row EU.I.2.1 ?_);refine aaf Tryz.results20 (.bool true) EU.I.2.1 ?_;rw [HN.I];have hw0:=HW0.I;exact ⟨k3,rfl,(EU.I.2.2.1.lower (by omega)).same fun b hb=>KH _ _ _ _ (by have:=(EU.I.2.2.1.lt hb).1; omega),EU.I.2.2.2,kz EU.I.1 (by omega) _⟩
end
end Go.Proofs.YteidkehoekbcaaaGreat
