
/- What the proof leans on, part 0. -/
import Derived.Test.YtfncpmaefninjaaGreatDoorOwnS13
import Derived.Lib.Join
set_option linter.defProp false
set_option maxRecDepth 100000
set_option maxHeartbeats 8000000
open Go.Proofs.Tryz
open Go renaming World->w_,Value->v_,Calls->k_,Addr->d_,TypeId->T_,below_setRow->q_
open Go.Ending renaming returned->r_
open Go.IntKind renaming i64->j_
open Go.Obj renaming cells->c_
open Go.RowKit renaming Below->B_
open Go.Value renaming int->i_,slice->s_,bool->b_,string->t_,agg->a_,pointer->p_,tuple->u_
open Option renaming some->o_,none->n_
open Array renaming getElem?_eq_some_iff->J2
open Bool renaming and_eq_true->J7
open ByteArray renaming size_append->QH
open Go renaming bodyPost_ret->KT,heap_alloc2_new->Kq,heap_alloc_new->Kj,setRow_heap->KU,setRow_other->KH,wp_at_succ->Kd,wp_at_zero->Kc
open Go.IntKind renaming wrap_i64->K8
open Go.Proofs.Tryz renaming prog->J3
open Go.RowKit.Below renaming refl->Kp
open List renaming find?_map->aeu,getElem?_eq_getElem->Kz,mem_cons->Kt,mem_filter->L2,mem_map->Lr,mem_of_getElem?->KA
open Nat renaming le_refl->Ki,le_trans->LG,zero_le->Ky
open Option renaming map_some->J9
open Option.some renaming inj->KC
namespace Go.Proofs.YtfncpmaefninjaaGreatDoor
section
open Go.RowKit
def g9 {α:Type} (c:α->Nat) (l:List α):Nat:=(l.map c).sum
end
section
open Go.RowKit Go.Maps
attribute [local go_sem ↓] Kc Kd
def sI (l:List (ao × Nat)):(et l).map (fun p=>p.1.toaD)=(l.map fun p=>p.1.toaD).filter fun x=>decide (x.Md=1):=by
 unfold et;rw [List.filter_map];rfl
end
section
open Go.RowKit
attribute [local go_sem ↓] Kc Kd
def aE.total (p:aE):Nat:=p.L8.length+g9 (fun x:aD=>x.prog.length) p.L8+p.aj.length+p.L9.length+p.ag.length+(p.ae.length+g9 (fun x:ci=>x.Ma.length) p.ae)+(p.ai.length+g9 (fun x:dS=>x.Ma.length) p.ai)
end
section
open Go.RowKit Go.Maps
attribute [local go_sem ↓] Kc Kd
def Iy {S:aZ} (h:aQ S.pure): ∀ p∈RW (fun x:ao=>x.id) S.lp,(Lit.int j_ p.1).wf=true:=fun p hp=>by
 obtain ⟨r,hr,rfl⟩:=Lr.1 hp;have h1:=(cK h.L8 r.1.toaD (Lr.2 ⟨r,hr,rfl⟩)).1;have h2:=bz.1 h1;have e1:IntKind.min j_<=0:=by decide
 have e2:100000<=IntKind.max j_:=by decide
 simp only [Lit.wf,J7,decide_eq_true_eq];have h3:r.1.toaD.id=r.1.id:=rfl;omega
def um (p:af) (w:w_) (hg:p.Good w):k_ J3 13 #[a_ p.cells] w fun e w'=>e=r_ (i_ j_ (da p.pure))/\B_ w.heap.size w w':=by
 have HG:Hid (p.Good (w.alloc (c_ p.cells 31))/\B_ w.heap.size w (w.alloc (c_ p.cells 31))):=⟨hg.below ((Kp _ _).alloc (Ki _) _),(Kp _ _).alloc (Ki _) _⟩
 clear hg;unfold af.cells at *
 go_enter func13,ntmps13
 go_wp2_with fail;generalize w.alloc (c_ p.row 31)=W at *;refine (iO p W HG.I.1).mono ?_;rintro e w1 ⟨hb1,⟨hno,rfl⟩ | ⟨fm,o,S,rfl,hat,gn⟩⟩
 .have HZ:Hid (B_ w.heap.size w w1/\da p.pure=0):=⟨HG.I.2.trans (hb1.mono HG.I.2.size),by simp [da,dL hno]⟩
  clear hb1 hno;go_wp2;go_ret;exact ⟨ck HZ.I.2.symm,HZ.I.1⟩
 have HZ:Hid (B_ w.heap.size w w1/\aQ S.pure/\cJ w1 W.heap.size o S/\S.pure=p.pure):=⟨HG.I.2.trans (hb1.mono HG.I.2.size),by rw [gn]; exact fm,hat,gn⟩
 have DM:Hid (S.lp.length<=1048576):=by have h5:=HZ.I.2.1.dl; have h6:S.pure.L8.length=S.lp.length:=(by simp [aZ.pure]); show S.lp.length<=_; omega
 clear hb1 fm hat gn;go_wp2_with fail;refine (Cm o S.q S.lp W.heap.size w1 HZ.I.2.2.1.opn HZ.I.2.2.1.L8 DM.I (Iy HZ.I.2.1)).mono ?_;rintro e w2 ⟨rfl,hb2⟩;have cy:Hid (B_ w.heap.size w w2):=HZ.I.1.trans (hb2.mono HZ.I.1.size);by_cases hr:0 < (et S.lp).length
 .have ya:decide (0 < (et S.lp).length)=true:=decide_eq_true hr
  obtain ⟨y,hy,hym⟩:=ql (l:=et S.lp) hr (Ki _);rw [List.take_length] at hy;have HC:Hid (da p.pure=y.1.id):=by
   have h5:=vj (et S.lp);rw [hy,sI] at h5
   show da _=_
   rw [<- HZ.I.2.2.2];simp only [da,fP HZ.I.2.1,if_true,nL];have h6:jo (S.pure.L8.filter fun x=>decide (x.Md=1))=o_ y.1.toaD:=h5.symm;rw [h6]
  have lW:w2.heap[y.2]? =o_ (c_ (aX y.1) 41):=(HZ.I.2.2.1.L8.below hb2).box y (L2.1 hym).1;obtain ⟨s0,-⟩:=bo lW;rw [hy,ya];simp only [qz,dt,J9];clear hb2 hr ya hy hym lW;go_wp2;go_ret;exact ⟨ck HC.I.symm,cy.I⟩
 .have ya:decide (0 < (et S.lp).length)=false:=decide_eq_false hr
  have he:et S.lp= [] :=List.eq_nil_of_length_eq_zero zo;have HC:Hid (da p.pure=0):=by
   have h5:=vj (et S.lp);rw [sI] at h5
   show da _=_
   rw [<- HZ.I.2.2.2];simp only [da,fP HZ.I.2.1,if_true,nL];have h6:jo (S.pure.L8.filter fun x=>decide (x.Md=1))=n_:=by rw [show S.pure.L8=S.lp.map (·.1.toaD) from rfl,<- h5,he]; rfl
   rw [h6]
  rw [ya,he];clear hb2 hr ya he;go_wp2;go_ret;exact ⟨ck HC.I.symm,cy.I⟩
def uK:aD:=⟨0,0,[],0,0,0,0,0,rM,rM,0,0⟩
def ew (p:aE) (id:Int):Option aD:=if bK p then p.L8.find? (fun x=>decide (x.id=id)) else n_
def wb (w:w_) (r:Option aD) (e:Ending) (w':w_):Prop:= ∃ x:ao,e=r_ (u_ #[a_ (aX x),b_ r.isSome])/\aR.cO w' w.heap.size x/\x.toaD=r.getD uK/\B_ w.heap.size w w'
def l7 {w w':w_} {r:Option aD} (h:r=n_) (hb:B_ w.heap.size w w'):wb w r (r_ (u_ #[a_ cE,b_ false])) w':=by
 subst h;exact ⟨⟨uK,n_,0⟩,rfl,World.ownsRow_nil _ _ _ _,rfl,hb⟩
def ui {p:aE} {id:Int} (h:bK p=false):ew p id=n_:=by simp [ew,h]
def E0 (id:Int) (lp:List (ao × Nat)):cz (RW (fun x:ao=>x.id) lp) id=(lp.find? (fun p=>decide (p.1.id=id))).map (·.2):=by
 unfold cz RW;rw [aeu,Option.map_map];have e:((fun p:Int × Nat=>p.1 == id) ∘ fun p:ao × Nat=>(p.1.id,p.2))=fun p=>decide (p.1.id=id):=by
  funext p
  show (p.1.id == id)=_
  rw [Bool.beq_eq_decide_eq]
 rw [e];rfl
def Fj (id:Int) (lp:List (ao × Nat)):(lp.map fun p=>p.1.toaD).find? (fun x=>decide (x.id=id))=(lp.find? (fun p=>decide (p.1.id=id))).map (fun p=>p.1.toaD):=by
 rw [aeu];rfl
def uN (p:af) (id:Int) (w:w_) (hid:(Lit.int j_ id).wf=true) (hg:p.Good w):
  k_ J3 15 #[a_ p.cells,i_ j_ id] w fun e w'=>wb w (ew p.pure id) e w':=by
 have HB:Hid (p.Good ((w.alloc (c_ p.row 31)).alloc (c_ cE 41))/\B_ w.heap.size w ((w.alloc (c_ p.row 31)).alloc (c_ cE 41))/\((w.alloc (c_ p.row 31)).alloc (c_ cE 41)).heap[w.heap.size+1]? =o_ (c_ cE 41)/\av ((w.alloc (c_ p.row 31)).alloc (c_ cE 41)) w.heap.size p/\(Lit.int j_ id).wf=true):=by
  have b1:B_ w.heap.size w ((w.alloc (c_ p.row 31)).alloc (c_ cE 41)):=((Kp _ _).alloc (Ki _) _).alloc zw _;exact ⟨hg.below b1,b1,Kq _ _ _,(PU zw).trans (Kj _ _),hid⟩
 clear hg hid;obtain ⟨m0,m1,m2,m3,m4,m5,m6,m7⟩:=HB.I.2.2.2.1.cells;unfold af.cells
 go_enter func15,ntmps15
 go_wp2_with fail;generalize (w.alloc (c_ p.row 31)).alloc (c_ cE 41)=W at *;clear m0 m1 m2 m3 m4 m5 m6 m7;refine (iO p W HB.I.1).mono ?_;rintro e w1 ⟨hb1,⟨hno,rfl⟩ | ⟨fm,o,S,rfl,hat,gn⟩⟩
 .have HZ:Hid (B_ w.heap.size w w1/\w1.heap[w.heap.size+1]? =o_ (c_ cE 41)/\True):=⟨HB.I.2.1.trans (hb1.mono HB.I.2.1.size),(hb1.block _ (J2.1 HB.I.2.2.1).1).trans HB.I.2.2.1,trivial⟩
  have HN:Hid (ew p.pure id=n_):=ui (dL hno);clear hb1 hno
  dsimp only
  repeat (first | (go_big_may; refine wpList_store_row rfl 41 (Operand.tmp 4) (Operand.tmp 16) rfl (w.heap.size+1) _ _ cE rfl rfl HZ.I.2.1 ZcS rfl ZcS ?_) | go_values | go_skip | go_guarded | go_step | go_upon | go_back)
  refine KT (v:=u_ #[a_ cE,b_ false]) (bL results15 _ _ (w.heap.size+1) _ _ _ _ (by rfl) (KU _ _ _ _ _ _ HZ.I.2.1) underlying41 rfl ZcS) rfl ?_;exact l7 HN.I (q_ HZ.I.1 zo _)
 have HZ:Hid (B_ w.heap.size w w1/\w1.heap[w.heap.size+1]? =o_ (c_ cE 41)/\aQ S.pure/\cJ w1 W.heap.size o S/\S.pure=p.pure/\w.heap.size+1 < W.heap.size):=⟨HB.I.2.1.trans (hb1.mono HB.I.2.1.size),(hb1.block _ (J2.1 HB.I.2.2.1).1).trans HB.I.2.2.1,by rw [gn]; exact fm,hat,gn,(J2.1 HB.I.2.2.1).1⟩
 have c3:w1.cell? ⟨o,3,n_⟩=o_ (.map (o_ S.q.bp)):=hat.opn.cell 3;have hlk:=hat.L8.map.look underlying67 (oD w1) HB.I.2.2.2.2 true;have td:ew p.pure id=(S.lp.find? (fun p=>decide (p.1.id=id))).map (fun p=>p.1.toaD):=by
  rw [<- gn];simp only [ew,fP HZ.I.2.2.1,if_true];exact Fj id S.lp
 rw [E0] at hlk;simp only [if_true] at hlk;clear hb1 fm hat gn;cases Dc:S.lp.find? (fun p=>decide (p.1.id=id)) with
 | none=>
  rw [Dc] at hlk td;simp only [Option.map_none,qz,Option.isSome_none] at hlk;have HN:Hid (ew p.pure id=n_):=td;clear Dc td;go_wp2_with (refine wpList_store_row rfl 41 (Operand.tmp 4) (Operand.tmp 29) rfl (w.heap.size+1) _ _ cE rfl rfl HZ.I.2.1 ZcS rfl ZcS ?_);refine KT (v:=u_ #[a_ cE,b_ false]) (bL results15 _ _ (w.heap.size+1) _ _ _ _ (by rfl) (KU _ _ _ _ _ _ HZ.I.2.1) underlying41 rfl ZcS) rfl ?_;exact l7 HN.I (q_ HZ.I.1 zo _)
 | some r=>
  obtain ⟨x,g⟩:=r;rw [Dc] at hlk td;simp only [J9,qz,dt,Option.isSome_some] at hlk;have hm:(x,g)∈S.lp:=List.mem_of_find?_eq_some Dc;have HN:Hid (ew p.pure id=o_ x.toaD/\aR.cO w1 W.heap.size x):=⟨td,HZ.I.2.2.2.1.eI (x,g) hm⟩
  obtain ⟨d0,d1,d2,d3,d4,d5,d6,d7,d8,d9,tH,tS⟩:=bo (HZ.I.2.2.2.1.L8.box (x,g) hm);clear Dc td hm;go_wp2_with (refine wpList_store_row rfl 41 (Operand.tmp 4) (Operand.tmp 32) rfl (w.heap.size+1) _ _ x.row rfl rfl HZ.I.2.1 ZcS rfl ZcS ?_);refine KT (v:=u_ #[a_ x.row,b_ true]) (bL results15 _ _ (w.heap.size+1) _ _ _ _ (by rfl) (KU _ _ _ _ _ _ HZ.I.2.1) underlying41 rfl ZcS) rfl ?_;rw [HN.I.1];have hWs:=HZ.I.2.2.2.2.2;exact ⟨x,rfl,(HN.I.2.low zo).same fun g hk=>KH _ _ _ _ (by have:=(HN.I.2.lt hk).1; omega),rfl,q_ HZ.I.1 zo _⟩
end
section
open Go.RowKit
def ai4 {α:Type} {c:α->Nat} {l:List α} {M N:Nat} (h: ∀ x∈l,c x<=M) (hl:l.length<=N):g9 c l<=N * M:=by
 refine LG ?_ (Nat.mul_le_mul_right M hl);clear hl;unfold g9
 induction l with
 | nil=>simp
 | cons x r ih=>
  have h1:=h x zw;have h2:=ih fun y hy=>h y (by simp [hy])
  simp only [List.map_cons,List.sum_cons,List.length_cons];rw [Nat.add_mul];omega
def aiQ {p:aE} (h:aQ p):p.total<=1000:=by
 have s1:g9 (fun x:aD=>x.prog.length) p.L8<=6 * 20:=ai4 (fun x hx=>by
  have hb:=iF (h.proc hx).2.1;unfold jY at hb;simp only [J7] at hb;exact (lK hb.1.1.1.2).2) h.dl
 have s2:g9 (fun x:ci=>x.Ma.length) p.ae<=5 * 5:=ai4 (fun x hx=>by
  have k2:=(cK h.ae x hx).2;unfold ct at k2;simp only [J7] at k2
  have:=(lv.1 k2.2).1
  have:=(bz.1 k2.1).2
  omega) h.cb
 have s3:g9 (fun x:dS=>x.Ma.length) p.ai<=5 * 5:=ai4 (fun x hx=>by
  have k2:=(cK h.ai x hx).2;unfold dj at k2;simp only [J7] at k2
  have:=(lv.1 k2.2).1
  have:=(bz.1 k2.1.1).2
  omega) h.dH
 have:=h.dl
 have:=h.fx
 have:=h.cD
 have:=h.cC
 have:=h.cb
 have:=h.dH
 unfold aE.total;omega
def agP {r:Option aE} (h: ∀ q,r=o_ q->aQ q):(r.getD cN).Small/\(r.getD cN).total<=1000:=by
 cases r with
 | none=>exact ⟨hY,by decide⟩
 | some q=>exact ⟨ta (h q rfl),aiQ (h q rfl)⟩
end
def Gz {p:aE} (h:aQ p) {b:aD} (hb:b∈p.L8):p.L8.find? (fun x=>decide (x.id=b.id))=o_ b:=by
 have hr:=h.kW
 revert hr hb
 generalize p.L8=l
 induction l with
 | nil=>intro hb; cases hb
 | cons y r ih=>
  intro hb hr;rw [List.pairwise_cons] at hr;rcases Kt.1 hb with rfl | hb
  .simp
  .have:=hr.1 b hb
   rw [List.find?_cons,show decide (y.id=b.id)=false from decide_eq_false zo];exact ih hb hr.2
def Ek {p:aE} (h:p.Small):(Lit.int j_ (da p)).wf=true:=by
 unfold da
 split
 .unfold nL
  cases hb:jo (p.L8.filter fun x=>decide (x.Md=1)) with
  | none=>rfl
  | some b=>exact (h.L8 b (L2.1 (xC _ _ _ rfl hb).1).1).2.1
 .rfl
section
open Go.RowKit Go.Maps
attribute [local go_sem ↓] Kc Kd
def Sv (o g base:Nat) (S:aZ) (x:ao) (code:Int) (w:w_) (h:cJ w base o S) (lY:base<=w.heap.size) (hx:(x,g)∈S.lp) (n0:0<=S.q.next) (n1:S.q.next<=1000000000) (hpc:0<=x.pc/\x.pc < x.prog.length) (hl:x.prog.length<=1048576):
  k_ J3 62 #[p_ (o_ ⟨o,0,n_⟩),p_ (o_ ⟨g,0,n_⟩),i_ j_ code] w fun e w'=>e=r_ (u_ #[])/\cJ w' base o (S.ju g (pF S.q.next code) (gf S.q.next x.toaD))/\B_ base w w':=
 (ahO o g base S x code w h lY hx n0 n1 hpc hl).mono fun _ _ h5=>⟨h5.1,h5.2.1,h5.2.2.below lY (by simp only [Kt,List.not_mem_nil,or_false]; rintro b (rfl | rfl) <;> first | exact h.low | exact h.L8.low _ (List.mem_cons_of_mem _ (Lr.2 ⟨_,hx,rfl⟩)))⟩
end
section
variable {now n k:Int} {p q a:aE}
def amN (hp:aQ p) (h: ¬ da p=0): ∃ x,jl 1 0 p.L8=o_ x/\x∈p.L8/\x.Md=1/\x.id=da p:=by
 rw [amr hp];unfold da nL at h ⊢;rw [(ch p).2 hp] at h ⊢;cases hb:jo (p.L8.filter fun x=>decide (x.Md=1)) with
 | none=>rw [hb] at h; exact absurd rfl h
 | some b=>
  have h1:=L2.1 (xC _ _ _ rfl hb).1;exact ⟨b,rfl,h1.1,of_decide_eq_true h1.2,rfl⟩
end
section
open Go.RowKit Go.Maps
attribute [local go_sem ↓] Kc Kd
structure WkI (now:Int) (base:Nat) (w:w_) (afH:aZ) (o k:Nat) (S:aZ) (wr:w_):Prop where
 at':cJ wr base o S
 fits:S.Fits
 wk:af9 now S.pure
 same:gj now S.pure=gj now afH.pure
 cnt:(lF now S.pure.L8).length=k
 short: ∀ p∈S.lp,p.1.prog.length<=1048576
 cd:B_ base w wr
def WdEnds (o base:Nat) (S:aZ) (now:Int) (w:w_) (e:Ending) (w':w_):Prop:= ∃ S2:aZ,e=r_ (b_ (cv now 0 1000000000 && decide (S.q.next<=999999980)))/\cJ w' base o S2/\S2.Fits/\((cv now 0 1000000000 && decide (S.q.next<=999999980))=true->S2.pure=gj now S.pure)/\B_ base w w'
def Sg (o base:Nat) (S:aZ) (now:Int) (w:w_) (h:cJ w base o S) (lY:base<=w.heap.size) (hf:S.Fits) (hr:aQ S.pure):
  k_ J3 32 #[p_ (o_ ⟨o,0,n_⟩),i_ j_ now] w fun e w'=>WdEnds o base S now w e w':=by
 have c1:w.cell? ⟨o,1,n_⟩=o_ (i_ j_ S.q.next):=h.opn.cell 1;have H:Hid (cJ w base o S/\S.Fits/\aQ S.pure/\base<=w.heap.size):=⟨h,hf,hr,lY⟩
 clear h hf hr lY
 go_enter func32,ntmps32
 by_cases h1:now < 0
 .skip
  have HV:Hid ((cv now 0 1000000000 && decide (S.q.next<=999999980))=false):=by show _=_; rw [show cv now 0 1000000000=false by cases h5:cv now 0 1000000000 with | false=>rfl | true=>have:=bz.1 h5; omega]; rfl
  go_wp2;go_ret;exact ⟨S,al HV.I.symm,H.I.1,H.I.2.1,(fun e=>by rw [HV.I] at e; cases e),Kp _ _⟩
 by_cases h2:1000000000 < now
 .skip
  have HV:Hid ((cv now 0 1000000000 && decide (S.q.next<=999999980))=false):=by show _=_; rw [show cv now 0 1000000000=false by cases h5:cv now 0 1000000000 with | false=>rfl | true=>have:=bz.1 h5; omega]; rfl
  go_wp2;go_ret;exact ⟨S,al HV.I.symm,H.I.1,H.I.2.1,(fun e=>by rw [HV.I] at e; cases e),Kp _ _⟩
 by_cases h3:999999980 < S.q.next
 .skip
  have HV:Hid ((cv now 0 1000000000 && decide (S.q.next<=999999980))=false):=by show _=_; rw [decide_eq_false zo,Bool.and_false]
  go_wp2;go_ret;exact ⟨S,al HV.I.symm,H.I.1,H.I.2.1,(fun e=>by rw [HV.I] at e; cases e),Kp _ _⟩
 have HV:Hid ((cv now 0 1000000000 && decide (S.q.next<=999999980))=true):=by show _=_; rw [bz.2 ⟨zo,zo⟩,decide_eq_true zo]; rfl
 have HK:Hid (WkI now base w S o (lF now S.pure.L8).length S w):=⟨H.I.1,H.I.2.1,af9.of H.I.2.2.1 (by show S.q.next<=_; omega),rfl,rfl,fun p hp=>St H.I.2.2.1 hp,Kp _ _⟩
 go_wp2_with fail;clear c1 h1 h2 h3
 go_loopg [] (lF now S.pure.L8).length (fun k wr=> ∃ S1:aZ,Hid (WkI now base w S o k S1 wr))
 case atStart=>exact ⟨S,HK.I⟩
 case round=>
  obtain ⟨S1,HO⟩:=hrel;have hlq:S1.lp.length<=6:=by have h5:=HO.I.wk.low; simpa [aZ.pure] using h5
  have HL:Hid (S1.lp.length<=1048576/\(Qx now S1.lp).length<=1048576):=⟨zo,LG (List.length_filter_le _ _) zo⟩
  clear hlq;go_wp2_with fail;refine (Sz o S1.q S1.lp now base wr HO.I.at'.opn HO.I.at'.L8 HL.I.1 HO.I.fits.Jl).mono ?_;rintro e w2 ⟨⟨a,cap,rfl,hrw⟩,hb2⟩;have HB:Hid (Row w2 a ((Qx now S1.lp).map fun p=>dt p.2)/\B_ wr.heap.size wr w2):=⟨hrw,hb2⟩
  clear hrw hb2;go_wp2_with fail;refine (Sd a (Qx now S1.lp) cap w2 HL.I.2 HB.I.1 (fun p hp=>(HO.I.at'.L8.below HB.I.2).box p (L2.1 hp).1)).mono ?_;rintro e w3 ⟨rfl,hb3⟩;have H3:Hid (B_ wr.heap.size wr w3):=HB.I.2.trans (hb3.mono HB.I.2.size);have HN:Hid ((oa RY (Qx now S1.lp)).map (fun p=>p.1.toaD)=lZ now S1.pure.L8):=Sy HO.I.wk.kW;clear hb3 HB;cases hbd:oa RY (Qx now S1.lp) with
  | none=>
   have e0:(Qx now S1.lp).length=0:=by rw [CZ RY hbd]; rfl
   have HD:Hid (lZ now S1.pure.L8=n_):=by have h5:=HN.I; rw [hbd] at h5; exact h5.symm
   have d0:decide (0 < (Qx now S1.lp).length)=false:=decide_eq_false zo;rw [d0];clear hbd e0 d0;simp only [qz,Option.map_none];go_wp2;go_ret;exact ⟨S1,al HV.I.symm,HO.I.at'.below H3.I,HO.I.fits,fun _=>by rw [<- HO.I.same]; exact (Co HD.I).symm,HO.I.cd.trans (H3.I.mono (by have:=HO.I.cd.size; have:=H.I.2.2.2; omega))⟩
  | some r=>
   obtain ⟨x,g⟩:=r;have hmd:=Fg RY hbd;have hm:(x,g)∈S1.lp/\og now x.toaD=true:=L2.1 hmd;have d0:decide (0 < (Qx now S1.lp).length)=true:=decide_eq_true (List.length_pos_of_mem hmd);have HD:Hid (lZ now S1.pure.L8=o_ x.toaD/\(x,g)∈S1.lp):=⟨by have h5:=HN.I; rw [hbd] at h5; exact h5.symm,hm.1⟩
   have hst:=(RZ.1 hm.2).1;have hop:=HO.I.wk.op x.toaD (Lr.2 ⟨(x,g),hm.1,rfl⟩) hst;have hro:=HO.I.wk.room;have ai2:=HO.I.at'.below H3.I;have s3:=(bo (ai2.L8.box (x,g) hm.1)).2.2.2.1;have hbs:base<=w3.heap.size:=by have:=HO.I.cd.size; have:=H3.I.size; have:=H.I.2.2.2; omega
   have Mb:=fun code=>Sv o g base S1 x code w3 ai2 hbs hm.1 (by have h5:S1.pure.next=S1.q.next:=rfl; omega) (by have h5:S1.pure.next=S1.q.next:=rfl; omega) hop (HO.I.short _ hm.1)
   rw [d0];clear hbd hmd hm d0 hst hop hro ai2 hbs HN;simp only [qz,dt,J9];cases e2:(x.Md == 2)
   .skip
    replace Mb:=Mb 2;have HCO:Hid (mL x.toaD=2):=by show mL x.toaD=_; unfold mL; rw [if_neg (by simpa using e2)]
    go_wp2_with fail;clear s3 e2;refine Mb.mono ?_;clear Mb;rintro e w4 ⟨rfl,Ss,hb4⟩;have HP:Hid ((S1.ju g (pF S1.q.next 2) (gf S1.q.next x.toaD)).pure=gu S1.pure x.toaD):=by
     have h5:=aZ.Sb (nx:=gf S1.q.next x.toaD) (f:=pF S1.q.next 2) (f':=iY S1.q.next 2) HO.I.wk.kW (fun p hp hpg=>HO.I.at'.L8.one hp HD.I.2 hpg) HD.I.2 (fun _=>rfl);refine h5.trans ?_;unfold gu;rw [HCO.I];rfl
    have HI:Hid (WkI now base w S o (lF now (S1.ju g (pF S1.q.next 2) (gf S1.q.next x.toaD)).pure.L8).length (S1.ju g (pF S1.q.next 2) (gf S1.q.next x.toaD)) w4/\(lF now (S1.ju g (pF S1.q.next 2) (gf S1.q.next x.toaD)).pure.L8).length < gk):=by
     have hst:=HO.I.wk.step HD.I.1;have hc:=HO.I.cnt;have hbl:=HO.I.cd.trans ((H3.I.mono (by have:=HO.I.cd.size; have:=H.I.2.2.2; omega)).trans hb4);refine ⟨⟨Ss,NU HO.I.fits (fun y=>(rD _ _ _).1),by rw [HP.I]; exact hst.1,by rw [HP.I,<- HO.I.same]; exact (vn HO.I.wk HD.I.1).symm,rfl,fun p hp=> ?_,hbl⟩,by rw [HP.I]; omega⟩;obtain ⟨r,hr,rfl⟩:=yy.1 hp
     split
     .show (iY _ _ r.1.toaD).prog.length<=_
      rw [(rD _ _ _).2];exact HO.I.short r hr
     .exact HO.I.short r hr
    clear Ss hb4;go_wp2_with fail
    go_roundg (lF now (S1.ju g (pF S1.q.next 2) (gf S1.q.next x.toaD)).pure.L8).length
    case rel=>exact ⟨_,HI.I.1⟩
    case measure=>exact HI.I.2
   .skip
    replace Mb:=Mb 0;have HCO:Hid (mL x.toaD=0):=by show mL x.toaD=_; unfold mL; rw [if_pos (by simpa using e2)]
    go_wp2_with fail;clear s3 e2;refine Mb.mono ?_;clear Mb;rintro e w4 ⟨rfl,Ss,hb4⟩;have HP:Hid ((S1.ju g (pF S1.q.next 0) (gf S1.q.next x.toaD)).pure=gu S1.pure x.toaD):=by
     have h5:=aZ.Sb (nx:=gf S1.q.next x.toaD) (f:=pF S1.q.next 0) (f':=iY S1.q.next 0) HO.I.wk.kW (fun p hp hpg=>HO.I.at'.L8.one hp HD.I.2 hpg) HD.I.2 (fun _=>rfl);refine h5.trans ?_;unfold gu;rw [HCO.I];rfl
    have HI:Hid (WkI now base w S o (lF now (S1.ju g (pF S1.q.next 0) (gf S1.q.next x.toaD)).pure.L8).length (S1.ju g (pF S1.q.next 0) (gf S1.q.next x.toaD)) w4/\(lF now (S1.ju g (pF S1.q.next 0) (gf S1.q.next x.toaD)).pure.L8).length < gk):=by
     have hst:=HO.I.wk.step HD.I.1;have hc:=HO.I.cnt;have hbl:=HO.I.cd.trans ((H3.I.mono (by have:=HO.I.cd.size; have:=H.I.2.2.2; omega)).trans hb4);refine ⟨⟨Ss,NU HO.I.fits (fun y=>(rD _ _ _).1),by rw [HP.I]; exact hst.1,by rw [HP.I,<- HO.I.same]; exact (vn HO.I.wk HD.I.1).symm,rfl,fun p hp=> ?_,hbl⟩,by rw [HP.I]; omega⟩;obtain ⟨r,hr,rfl⟩:=yy.1 hp
     split
     .show (iY _ _ r.1.toaD).prog.length<=_
      rw [(rD _ _ _).2];exact HO.I.short r hr
     .exact HO.I.short r hr
    clear Ss hb4;go_wp2_with fail
    go_roundg (lF now (S1.ju g (pF S1.q.next 0) (gf S1.q.next x.toaD)).pure.L8).length
    case rel=>exact ⟨_,HI.I.1⟩
    case measure=>exact HI.I.2
def R3 (p:af) (now:Int) (w:w_) (hg:p.Good w):
  k_ J3 12 #[a_ p.cells,i_ j_ now] w fun e w'=>gI w (kk p.pure now) e w':=by
 have b1:B_ w.heap.size w ((w.alloc (c_ p.cells 31)).alloc (c_ ar 31)):=dT _ _ _;have HB:Hid (p.Good ((w.alloc (c_ p.cells 31)).alloc (c_ ar 31))/\B_ w.heap.size w ((w.alloc (c_ p.cells 31)).alloc (c_ ar 31))/\((w.alloc (c_ p.cells 31)).alloc (c_ ar 31)).heap[w.heap.size+1]? =o_ (c_ ar 31)/\av ((w.alloc (c_ p.cells 31)).alloc (c_ ar 31)) w.heap.size p):=⟨hg.below b1,b1,(cZ _ _ _).2,(cZ _ _ _).1⟩
 clear hg b1;obtain ⟨m0,m1,m2,m3,m4,m5,m6,m7⟩:=HB.I.2.2.2.cells;unfold af.cells at *
 go_enter func12,ntmps12
 go_wp2_with fail;generalize (w.alloc (c_ p.row 31)).alloc (c_ ar 31)=W at *;clear m0 m1 m2 m3 m4 m5 m6 m7;refine (iO p W HB.I.1).mono ?_;rintro e w1 ⟨hb1,⟨hno,rfl⟩ | ⟨fm,o,S,rfl,hat,gn⟩⟩
 .have HZ:Hid (B_ w.heap.size w w1/\w1.heap[w.heap.size+1]? =o_ (c_ ar 31)/\True):=⟨HB.I.2.1.trans (hb1.mono HB.I.2.1.size),(hb1.block _ (J2.1 HB.I.2.2.1).1).trans HB.I.2.2.1,trivial⟩
  have HN:Hid (kk p.pure now=n_):=by show kk _ _=n_; simp [kk,dL hno]
  clear hb1 hno;go_wp2_with (refine ec 4 21 ar HZ.I.2.1 ?_);refine mG results12 (b_ false) HZ.I.2.1 ?_;exact ca HN.I (q_ HZ.I.1 zo _)
 have HZ:Hid (B_ w.heap.size w w1/\w1.heap[w.heap.size+1]? =o_ (c_ ar 31)/\aQ S.pure/\cJ w1 W.heap.size o S/\S.pure=p.pure/\w.heap.size+1 < W.heap.size/\W.heap.size<=w1.heap.size):=⟨HB.I.2.1.trans (hb1.mono HB.I.2.1.size),(hb1.block _ (J2.1 HB.I.2.2.1).1).trans HB.I.2.2.1,by rw [gn]; exact fm,hat,gn,(J2.1 HB.I.2.2.1).1,hb1.size⟩
 clear hb1 fm hat gn;have HN0:Hid (kk p.pure now=if cv now 0 1000000000 && decide (S.q.next<=999999980) then o_ (gj now S.pure) else n_):=by
  have h5:p.pure.next=S.q.next:=(congrArg aE.next HZ.I.2.2.2.2.1).symm
  show kk _ _=_
  unfold kk;rw [h5,<- HZ.I.2.2.2.2.1,fP HZ.I.2.2.1,Bool.true_and]
 have Mb:=Sg o W.heap.size S now w1 HZ.I.2.2.2.1 HZ.I.2.2.2.2.2.2 (iB HZ.I.2.2.1) HZ.I.2.2.1;go_wp2_with fail;refine Mb.mono ?_;clear Mb;rintro e w2 ⟨S2,rfl,g8,hf2,hp2,hb2⟩;have hlt:=HZ.I.2.2.2.2.2.1;have H2:Hid (B_ w.heap.size w w2/\w2.heap[w.heap.size+1]? =o_ (c_ ar 31)/\cJ w2 W.heap.size o S2/\S2.Fits):=⟨HZ.I.1.trans (hb2.mono zo),(hb2.block _ hlt).trans HZ.I.2.1,g8,hf2⟩
 cases hv:(cv now 0 1000000000 && decide (S.q.next<=999999980))
 .have HN:Hid (kk p.pure now=n_):=by rw [hv] at HN0; exact HN0.I
  clear g8 hf2 hp2 hb2 hv HN0;go_wp2_with (refine ec 4 21 ar H2.I.2.1 ?_);refine mG results12 (b_ false) H2.I.2.1 ?_;exact ca HN.I (q_ H2.I.1 zo _)
 have HN:Hid (kk p.pure now=o_ (gj now S.pure)):=by rw [hv] at HN0; exact HN0.I
 have HP:Hid (S2.pure=gj now S.pure):=hp2 hv;clear g8 hf2 hp2 hb2 hv HN0;go_wp2_with fail;refine (jR o W.heap.size S2 w2 H2.I.2.2.1 H2.I.2.2.2).mono ?_;rintro e w3 ⟨r,rfl,Bn,wu,hb3⟩;have H3:Hid (ap w3 W.heap.size r/\B_ w.heap.size w w3/\w3.heap[w.heap.size+1]? =o_ (c_ ar 31)/\r.pure=gj now S.pure):=⟨Bn,H2.I.1.trans (hb3.mono H2.I.1.size),(hb3.block _ (J2.1 H2.I.2.1).1).trans H2.I.2.1,wu.trans HP.I⟩
 clear Bn wu hb3;go_wp2_with (refine ec 4 23 (af.cells r) H3.I.2.2.1 ?_);refine mG results12 (b_ true) H3.I.2.2.1 ?_;rw [HN.I];exact ⟨r,rfl,(H3.I.1.lower zo).same fun b hb=>KH _ _ _ _ (by have:=(H3.I.1.lt b hb).1; omega),H3.I.2.2.2,q_ H3.I.2.1 zo _⟩
end
section
open Go.RowKit Go.Maps
section
variable {w0 W A:w_} {L:List (Nat × af)} {B B':List (Nat × ao)} {O:List (Nat × dN)} {p q:af} {x:ao} {o:dN} {X:Nat}
def TqS.putX (h:TqS w0 L B O A) (hr:Row A x.aY (fk.flat x.prog)):TqS w0 L ((A.heap.size,x) :: B) O ((A.alloc (c_ cE 41)).setRow A.heap.size (aX x)):=by
 have hz:B_ A.heap.size A ((A.alloc (c_ cE 41)).setRow A.heap.size (aX x)):=q_ ((Kp _ _).alloc (Ki _) _) (Ki _) _;have h2:=h.below hz;exact ⟨h2.ins,fun y hy=>(Kt.1 hy).elim (fun e=>by rw [e]; exact KU _ _ _ _ _ _ (Kj _ _)) (h2.box y),fun y hy=>(Kt.1 hy).elim (fun e=>by rw [e]; exact hr.below hz) (h2.row y),h2.ops,h2.low⟩
def TqS.OS (h:TqS w0 L B O W) (hb:B_ W.heap.size W A) (hm:aR.cO A W.heap.size x):TqS w0 L ((A.heap.size,x) :: B) O ((A.alloc (c_ cE 41)).setRow A.heap.size (aX x)):=(h.below hb).putX hm.row
def TqS.putO (h:TqS w0 L B O W) (o:dN):TqS w0 L B ((W.heap.size,o) :: O) (W.alloc (c_ #[i_ j_ o.1,i_ j_ o.2.1,i_ j_ o.2.2.1,t_ o.2.2.2] 45)):=by
 have h2:=h.below ((Kp W.heap.size W).alloc (Ki _) (c_ #[i_ j_ o.1,i_ j_ o.2.1,i_ j_ o.2.2.1,t_ o.2.2.2] 45));exact ⟨h2.ins,h2.box,h2.row,fun y hy=>(Kt.1 hy).elim (fun e=>by rw [e]; exact Kj _ _) (h2.ops y),h2.low⟩
def TqS.sub (h:TqS w0 L B O W) (hs: ∀ x∈B',x∈B):TqS w0 L B' O W:=⟨h.ins,fun x hx=>h.box x (hs x hx),fun x hx=>h.row x (hs x hx),h.ops,h.low⟩
end
def R0 {p:aE} {now:Int} :((kk p now).getD cN).Small:=(agP fun q h=>by
 unfold kk at h
 split at h
 case isFalse=>cases h
 rename_i hc;simp only [J7,decide_eq_true_eq] at hc;rw [<- KC h];exact (ru ((ch p).1 hc.1.1) zo).1).1
end
def LeftR (o:dN) (x y:aD):Prop:=y.left=x.left - 1\/(x.left=0/\y.left=o.2.1 - 1)\/(y.left=0/\(x.left=1\/o.2.1=1))
def anK (id:Int) (o:dN) (x y:aD):Prop:=am2 x y/\(x.id=id->x.Md=1->(o.1=1->LeftR o x y)/\(¬ o.1=1->amT x y\/(o.1=17/\x.pc=0/\y=x)))/\(¬ x.id=id->y=x\/anN o x y\/am9 x y)
section
variable {now:Int} {o:dN} {p:aE} {x:aD}
def als.imp {R Q:aD->aD->Prop} {l m:List aD} (h:als R l m) (hq: ∀ x∈l,∀ y,R x y->Q x y):als Q l m:=by
 obtain ⟨f,e,hf⟩:=h;exact ⟨f,e,fun x hx=>hq x hx _ (hf x hx)⟩
def op_all (hr:alY p.L8) (hx:x∈p.L8) (hs:x.Md=1) (ho:1<=o.1/\o.1<=17):als (anK x.id o) p.L8 (lX now x o p).L8:=by
 have hu:Rd1 x.id p.L8:=fun y hy e=>by rw [alP hr hx hy e]; exact hs
 have oth: ∀ y∈p.L8,¬ y.id=x.id->anK x.id o y y:=fun y _ h=>⟨⟨rfl,rfl,rfl⟩,fun e=>absurd e h,fun _=> .inl rfl⟩
 by_cases h1:o.1=1
 .unfold lX
  rw [if_pos h1];unfold GY;refine fK (P:=fun q:aE=>als (anK x.id o) p.L8 q.L8) (fun k1=> ?_) (fun n1=> ?_)
  .refine .ju oth fun y hy h=> ?_
   obtain rfl:=alP hr hx hy h;refine ⟨by unfold jT; split <;> exact ⟨rfl,rfl,rfl⟩,fun _ _=>⟨fun _=> .inr (.inr ⟨by unfold jT; split <;> rfl,?_⟩),fun e=>absurd h1 e⟩,fun e=>absurd h e⟩
   split at k1
   .exact .inr k1
   .exact .inl k1
  .refine .ju oth fun y hy h=> ?_
   obtain rfl:=alP hr hx hy h;refine ⟨⟨rfl,rfl,rfl⟩,fun _ _=>⟨fun _=> ?_,fun e=>absurd h1 e⟩,fun e=>absurd h e⟩;by_cases h0:y.left=0
   .refine .inr (.inl ⟨h0,?_⟩)
    show (if y.left=0 then o.2.1 else y.left) - 1=_
    rw [if_pos h0]
   .refine .inl ?_
    show (if y.left=0 then o.2.1 else y.left) - 1=_
    rw [if_neg h0]
 .by_cases h17:o.1=17
  .unfold lX
   simp only [h17,show ¬ (17:Int)=1 by decide,show ¬ (17:Int)=2 by decide,show ¬ (17:Int)=3 by decide,show ¬ (17:Int)=4 by decide,show ¬ ((17:Int)=5\/(17:Int)=6\/(17:Int)=7) by decide,show ¬ (17:Int)=8 by decide,show ¬ (17:Int)=9 by decide,show ¬ ((17:Int)=10\/(17:Int)=11\/(17:Int)=12) by decide,show ¬ (17:Int)=13 by decide,show ¬ (17:Int)=14 by decide,show ¬ (17:Int)=15 by decide,show ¬ (17:Int)=16 by decide,if_false];refine .ju oth fun y hy h=>⟨⟨rfl,rfl,rfl⟩,fun _ _=>⟨fun e=>absurd e h1,fun _=> ?_⟩,fun e=>absurd h e⟩
   by_cases h0:y.pc=0
   .refine .inr ⟨h17,h0,?_⟩
    obtain ⟨y0,y1,y2,y3,y4,y5,y6,aj5,ea,ah,y10,y11⟩:=y;simp only at h0;rw [h0]
   .exact .inl (.inr (fun e=>h0 (show y.pc=0 from e.symm)))
  .exact (ant hr hu h1 zo).imp fun y _ z h=>⟨h.1,fun e hs=>⟨fun e1=>absurd e1 h1,fun _=> .inl (h.2.1 e hs)⟩,h.2.2⟩
def anC {p:aE} (hp:aQ p):ew p 0=n_:=by
 unfold ew;rw [(ch p).2 hp,if_pos rfl,List.find?_eq_none];intro x hx e;have h1:=bz.1 (hp.proc hx).1;have h2:=of_decide_eq_true e;omega
structure OneF (w q:aE) (run:aD) (o:dN) (f:aD->aD):Prop where
 mem:run∈w.L8
 at_:ew w (da w)=o_ run
 st:run.Md=1
 id:run.id=da w
 op: ∃ n:Nat,run.pc=n/\run.prog[n]? =o_ o
 rng:o.1=1->(0<=run.left/\run.left<=1000)/\1<=o.2.1/\o.2.1<=1000
 all: ∀ x∈w.L8,ew q x.id=o_ (f x)/\anK run.id o x (f x)
def ang {R:Option aE} (h:R=hZ p now) (hs:R.isSome=true):kk p now=o_ (gj now p)/\aQ (gj now p)/\
  (¬ da (gj now p)=0-> ∃ run o f,OneF (gj now p) (R.getD cN) run o f):=by
 obtain ⟨q,rfl⟩:=Option.isSome_iff_exists.1 hs;obtain ⟨hp,eu,hn,rfl,hw⟩:=alT h.symm;obtain ⟨r1,r2,-⟩:=DA hp hn eu;have w1:=(ru (now:=now) hp zo).1;have w3:=(ru (now:=now) hp zo).2.2;refine ⟨hw,w1,fun hc=> ?_⟩;obtain ⟨x,hb,hm,hst,hid⟩:=amN w1 hc;have ho:=(AW (now:=now) w1 hm hst zo eu).1;have hpc:=iT (w1.proc hm).2.1 zo;obtain ⟨n,hn2⟩:=Int.eq_ofNat_of_zero_le hpc.1;have hlt:n < x.prog.length:=zo
 have hop:x.prog[n]? =o_ (opAt x):=by
  unfold opAt;rw [hn2];simp [hlt]
 obtain ⟨f,hf,hall⟩:=op_all (now:=now) (o:=opAt x) w1.kW hm hst (dv ho).1;have e:(mS now p).L8=(gj now p).L8.map f:=by
  rw [<- hf]
  show (match jl 1 0 (gj now p).L8 with | none=>gj now p | some x=>lX now x (opAt x) (gj now p)).L8=_
  rw [hb]
 refine ⟨x,opAt x,f,hm,?_,hst,hid,⟨n,hn2,hop⟩,fun e1=> ?_,fun y hy=>⟨?_,hall y hy⟩⟩
 .unfold ew
  rw [(ch _).2 w1,if_pos rfl,<- hid];exact Gz w1 hm
 .have h5:=(dv ho).2.1 zo
  have h6:=(w1.proc hm).2.1;rw [fG,J7] at h6;have h7:=h6.2;unfold bO at h7;rw [if_neg zo,if_pos hst] at h7;simp only [J7] at h7;have h8:=h7.1.1.1.2;unfold jJ at h8;rw [if_pos e1] at h8;simp only [J7,decide_eq_true_eq] at h8;exact ⟨⟨h8.1,zo⟩,h5⟩
 .show ew (mS now p) y.id=_
  unfold ew;rw [(ch _).2 r1,if_pos rfl,<- (hall y hy).1.1];exact Gz r1 (by rw [e]; exact Lr.2 ⟨y,hy,rfl⟩)
end
section
open Go.RowKit Go.Maps
attribute [local go_sem ↓] Kc Kd
def N1 (a b:Option d_) (os:List dN) (ca cb:Nat) (w:w_) (hl:os.length<=1048576) (ha:Row w a (fk.flat os)) (hb:Row w b (fk.flat os)):
  k_ J3 35 #[s_ a os.length ca,s_ b os.length cb] w fun e w'=>e=r_ (b_ true)/\B_ w.heap.size w w':=by
 have HR:Hid (Row w a (fk.flat os)/\Row w b (fk.flat os)):=⟨ha,hb⟩
 clear ha hb
 go_enter func35,ntmps35
 go_wp2_with fail
 go_loopw [5] (fun i wr=> ∃ k:Nat,k<=os.length/\i=i_ j_ k/\B_ w.heap.size w wr) (fun i _=>os.length - (Go.RowKit.intOf i).toNat)
 case atStart=>exact ⟨0,Ky _,rfl,Kp _ _⟩
 case round=>
  obtain ⟨k,hk,rfl,kj⟩:=hrel;by_cases hlt:k < os.length
  .obtain ⟨⟨K,N,M,S⟩,hx⟩: ∃ x,os[k]? =o_ x:=⟨_,Kz hlt⟩
   obtain ⟨g,rfl,c0,c1,c2,c3⟩:=Jm (HR.I.1.below kj) hx;obtain ⟨g',rfl,d0,d1,d2,d3⟩:=Jm (HR.I.2.below kj) hx;clear HR hx;have i0:(0:Int)<=(k:Int):=zo
   have i1:(k:Int) < (os.length:Int):=zo
   go_wp2_with fail
   go_quiet (fail)
   go_wp2;go_roundw
   case rel=>exact ⟨k+1,zo,by go_num,kj.os,kj.tape,kj.output,kj.size,kj.block⟩
   case measure=>simp [Go.RowKit.intOf]; omega
  .have i1: ¬ (k:Int) < (os.length:Int):=zo
   go_wp2;go_ret;exact ⟨rfl,kj⟩
def Nl (x y:ao) (w:w_) (h:x.toaD=y.toaD) (hl:x.prog.length<=1048576) (hx:Row w x.aY (fk.flat x.prog)) (hy:Row w y.aY (fk.flat y.prog)):
  k_ J3 16 #[a_ (aX x),a_ (aX y)] w fun e w'=>e=r_ (b_ true)/\B_ w.heap.size w w':=by
 obtain ⟨y0,ya,ak1⟩:=y;obtain ⟨x0,xa,xc⟩:=x;cases h;have hz:B_ w.heap.size w ((w.alloc (c_ #[i_ j_ y0.id,i_ j_ y0.RX,s_ xa y0.prog.length xc,i_ j_ y0.Md,i_ j_ y0.pc,i_ j_ y0.left,i_ j_ y0.Mg,i_ j_ y0.on,t_ y0.held,t_ y0.got,i_ j_ y0.code,i_ j_ y0.RU] 41)).alloc (c_ #[i_ j_ y0.id,i_ j_ y0.RX,s_ ya y0.prog.length ak1,i_ j_ y0.Md,i_ j_ y0.pc,i_ j_ y0.left,i_ j_ y0.Mg,i_ j_ y0.on,t_ y0.held,t_ y0.got,i_ j_ y0.code,i_ j_ y0.RU] 41)):=((Kp _ _).alloc (Ki _) _).alloc zw _;have S:Hid (((w.alloc (c_ #[i_ j_ y0.id,i_ j_ y0.RX,s_ xa y0.prog.length xc,i_ j_ y0.Md,i_ j_ y0.pc,i_ j_ y0.left,i_ j_ y0.Mg,i_ j_ y0.on,t_ y0.held,t_ y0.got,i_ j_ y0.code,i_ j_ y0.RU] 41)).alloc (c_ #[i_ j_ y0.id,i_ j_ y0.RX,s_ ya y0.prog.length ak1,i_ j_ y0.Md,i_ j_ y0.pc,i_ j_ y0.left,i_ j_ y0.Mg,i_ j_ y0.on,t_ y0.held,t_ y0.got,i_ j_ y0.code,i_ j_ y0.RU] 41)).heap[w.heap.size]? =o_ (c_ (aX ⟨y0,xa,xc⟩) 41)/\((w.alloc (c_ #[i_ j_ y0.id,i_ j_ y0.RX,s_ xa y0.prog.length xc,i_ j_ y0.Md,i_ j_ y0.pc,i_ j_ y0.left,i_ j_ y0.Mg,i_ j_ y0.on,t_ y0.held,t_ y0.got,i_ j_ y0.code,i_ j_ y0.RU] 41)).alloc (c_ #[i_ j_ y0.id,i_ j_ y0.RX,s_ ya y0.prog.length ak1,i_ j_ y0.Md,i_ j_ y0.pc,i_ j_ y0.left,i_ j_ y0.Mg,i_ j_ y0.on,t_ y0.held,t_ y0.got,i_ j_ y0.code,i_ j_ y0.RU] 41)).heap[w.heap.size+1]? =o_ (c_ (aX ⟨y0,ya,ak1⟩) 41)/\B_ w.heap.size w ((w.alloc (c_ #[i_ j_ y0.id,i_ j_ y0.RX,s_ xa y0.prog.length xc,i_ j_ y0.Md,i_ j_ y0.pc,i_ j_ y0.left,i_ j_ y0.Mg,i_ j_ y0.on,t_ y0.held,t_ y0.got,i_ j_ y0.code,i_ j_ y0.RU] 41)).alloc (c_ #[i_ j_ y0.id,i_ j_ y0.RX,s_ ya y0.prog.length ak1,i_ j_ y0.Md,i_ j_ y0.pc,i_ j_ y0.left,i_ j_ y0.Mg,i_ j_ y0.on,t_ y0.held,t_ y0.got,i_ j_ y0.code,i_ j_ y0.RU] 41))/\Row ((w.alloc (c_ #[i_ j_ y0.id,i_ j_ y0.RX,s_ xa y0.prog.length xc,i_ j_ y0.Md,i_ j_ y0.pc,i_ j_ y0.left,i_ j_ y0.Mg,i_ j_ y0.on,t_ y0.held,t_ y0.got,i_ j_ y0.code,i_ j_ y0.RU] 41)).alloc (c_ #[i_ j_ y0.id,i_ j_ y0.RX,s_ ya y0.prog.length ak1,i_ j_ y0.Md,i_ j_ y0.pc,i_ j_ y0.left,i_ j_ y0.Mg,i_ j_ y0.on,t_ y0.held,t_ y0.got,i_ j_ y0.code,i_ j_ y0.RU] 41)) xa (fk.flat y0.prog)/\Row ((w.alloc (c_ #[i_ j_ y0.id,i_ j_ y0.RX,s_ xa y0.prog.length xc,i_ j_ y0.Md,i_ j_ y0.pc,i_ j_ y0.left,i_ j_ y0.Mg,i_ j_ y0.on,t_ y0.held,t_ y0.got,i_ j_ y0.code,i_ j_ y0.RU] 41)).alloc (c_ #[i_ j_ y0.id,i_ j_ y0.RX,s_ ya y0.prog.length ak1,i_ j_ y0.Md,i_ j_ y0.pc,i_ j_ y0.left,i_ j_ y0.Mg,i_ j_ y0.on,t_ y0.held,t_ y0.got,i_ j_ y0.code,i_ j_ y0.RU] 41)) ya (fk.flat y0.prog)/\y0.prog.length<=1048576):=⟨(((Kp _ _).alloc (Ki _) _).block _ zw).trans (Kj _ _),Kq _ _ _,hz,hx.below hz,hy.below hz,hl⟩
 clear hz hx hy hl;unfold aX
 go_enter func16,ntmps16
 go_upto_region 1 with fail;generalize (w.alloc (c_ #[i_ j_ y0.id,i_ j_ y0.RX,s_ xa y0.prog.length xc,i_ j_ y0.Md,i_ j_ y0.pc,i_ j_ y0.left,i_ j_ y0.Mg,i_ j_ y0.on,t_ y0.held,t_ y0.got,i_ j_ y0.code,i_ j_ y0.RU] 41)).alloc (c_ #[i_ j_ y0.id,i_ j_ y0.RX,s_ ya y0.prog.length ak1,i_ j_ y0.Md,i_ j_ y0.pc,i_ j_ y0.left,i_ j_ y0.Mg,i_ j_ y0.on,t_ y0.held,t_ y0.got,i_ j_ y0.code,i_ j_ y0.RU] 41)=A at *;generalize hX:w.heap.size+1=X at *;clear hX;have Mb:=N1 xa ya y0.prog xc ak1 A S.I.2.2.2.2.2 S.I.2.2.2.1 S.I.2.2.2.2.1;obtain ⟨m0,m1,m2,m3,m4,m5,m6,m7,afS,Mm,m10,m11⟩:=bo S.I.1;obtain ⟨n0,n1,n2,n3,n4,n5,n6,n7,n8,n9,n10,n11⟩:=bo S.I.2.1;go_wp2_with fail;clear m0 m1 m2 m3 m4 m5 m6 m7 afS Mm m10 m11 n0 n1 n2 n3 n4 n5 n6 n7 n8 n9 n10 n11;refine Mb.mono ?_;clear Mb;rintro e A2 ⟨rfl,hb⟩;have HB:Hid (B_ w.heap.size w A2):=S.I.2.2.1.trans (hb.mono S.I.2.2.1.size);clear hb S;go_wp2;go_ret;exact ⟨al zw,HB.I⟩
def al9 (x y:ao) (w:w_) (hi:y.id=x.id) (hp:y.RX=x.RX) (hg:y.prog=x.prog) (hne: ¬ y.Md=x.Md\/ ¬ y.pc=x.pc):
  k_ J3 16 #[a_ (aX x),a_ (aX y)] w fun e w'=>e=r_ (b_ false)/\B_ w.heap.size w w':=by
 obtain ⟨⟨i,r,l,s,k,f,v,o,h,g,c,t⟩,xa,xc⟩:=x;obtain ⟨⟨i',r',l',s',k',f',v',o',h',g',c',t'⟩,ya,ak1⟩:=y;obtain rfl:i'=i:=hi;obtain rfl:r'=r:=hp;obtain rfl:l'=l:=hg;obtain ⟨A,hA⟩: ∃ A:w_,A=(w.alloc (c_ #[i_ j_ i',i_ j_ r',s_ xa l'.length xc,i_ j_ s,i_ j_ k,i_ j_ f,i_ j_ v,i_ j_ o,t_ h,t_ g,i_ j_ c,i_ j_ t] 41)).alloc (c_ #[i_ j_ i',i_ j_ r',s_ ya l'.length ak1,i_ j_ s',i_ j_ k',i_ j_ f',i_ j_ v',i_ j_ o',t_ h',t_ g',i_ j_ c',i_ j_ t'] 41):=⟨_,rfl⟩
 have hz:B_ w.heap.size w A:=by rw [hA]; exact ((Kp _ _).alloc (Ki _) _).alloc zw _
 have S:Hid (A.heap[w.heap.size]? =o_ (c_ (aX ⟨⟨i',r',l',s,k,f,v,o,h,g,c,t⟩,xa,xc⟩) 41)/\A.heap[w.heap.size+1]? =o_ (c_ (aX ⟨⟨i',r',l',s',k',f',v',o',h',g',c',t'⟩,ya,ak1⟩) 41)/\B_ w.heap.size w A):=⟨by rw [hA]; exact (((Kp _ _).alloc (Ki _) _).block _ zw).trans (Kj _ _),by rw [hA]; exact Kq _ _ _,hz⟩
 clear hz;have HN:=aA hne;clear hne;unfold aX
 go_enter func16,ntmps16
 go_upto_region 1 with fail;rw [<- hA];clear hA;generalize hX:w.heap.size+1=X at *;clear hX;have HB:=aA S.I.2.2;obtain ⟨m0,m1,m2,m3,m4,m5,m6,m7,afS,Mm,m10,m11⟩:=bo S.I.1;obtain ⟨n0,n1,n2,n3,n4,n5,n6,n7,n8,n9,n10,n11⟩:=bo S.I.2.1;clear S;by_cases e0:s=s'
 case neg=>
  have d0:(s == s')=false:=by simp [e0]
  go_wp2;go_ret;exact ⟨rfl,HB.I⟩
 subst e0;by_cases e1:k=k'
 case neg=>
  have d1:(k == k')=false:=by simp [e1]
  go_wp2;go_ret;exact ⟨rfl,HB.I⟩
 subst e1;exact HN.I.elim (fun h=>absurd rfl h) (fun h=>absurd rfl h)
def amQ (a:Option d_) (len cap:Nat) (E:d_ × d_ × d_) (w:w_) (he:Ers w w.heap.size E) (hb:len<=1048576->Bytes w a len):
  k_ J3 4 #[s_ a len cap] w fun e w'=>e=r_ (b_ true)/\B_ w.heap.size w w':=by
 by_cases hl:1048576 < len
 .have hd:decide (1048576 < len)=true:=by simp [hl]
  go_enter func4,ntmps4
  go_wp2_with (go_at_call 7; refine (DG _ _ _ _).mono ?_; rintro e w' ⟨rfl,rfl⟩; rw [hd]);go_ret;exact ⟨rfl,by go_grown⟩
 have hd:decide (1048576 < len)=false:=by simp [hl]
 have HBY:Hid (Bytes w a len):=hb zo;clear hb;have HER:=aA he;clear he;have HL:Hid (len<=1048576):=(by omega:len<=1048576)
 clear hl
 go_enter func4,ntmps4
 go_wp2_with (go_at_call 7; refine (DG _ _ _ _).mono ?_; rintro e w' ⟨rfl,rfl⟩; rw [hd]);clear hd;have S:Hid (TqS w' [] [] [] w'):=⟨by simp,by simp,by simp,by simp,Kp _ _⟩
 have Mb:=alQ a len cap w' HL.I HBY.I;go_wp2_with fail;refine Mb.mono ?_;clear Mb HBY HL;rintro e af8 ⟨p,now,rfl,hi,ho,hs,-,hb⟩;have HI:=aA hi;clear hi;replace S:=aA (S.I.put hb ho hs);clear ho hs hb;go_upto_region 4 with (refine ec 3 27 p.cells (Kj _ _) ?_);generalize (af8.alloc (c_ ar 31)).setRow af8.heap.size p.cells=WX1 at *;generalize af8.heap.size=X1 at *;obtain ⟨R1,Ps⟩: ∃ R,Hid (R=hZ p.pure now):=⟨_,rfl⟩
 obtain ⟨ei,hR3⟩: ∃ R,Hid (R=kk p.pure now):=⟨_,rfl⟩
 have Mb:=ahg p now E _ (S.I.good (x:=(X1,p)) zw) ((HER.I.below S.I.low).up S.I.low.size) HI.I;rw [<- Ps.I] at Mb;go_wp2_with (refine eT 3 (g:=X1) (cs:=p.cells) (S.I.ins (X1,p) zw).1.1 ?_);refine Mb.mono ?_;clear Mb;rintro e A2 ⟨q,rfl,ho,hp,hb⟩;replace S:=aA (S.I.put hb ho (by rw [hp]; exact (by rw [Ps.I]; exact za)));have b8:=aA hp;clear ho hb hp;go_upto_region 5 with (refine ec 5 33 q.cells (Kj _ _) ?_);generalize (A2.alloc (c_ ar 31)).setRow A2.heap.size q.cells=WX2 at *;generalize A2.heap.size=X2 at *;have Mb:=vu p now _ (dV (S.I.ins (X1,p) zw).2.1) (fun x hx=>(cY (S.I.ins (X1,p) zw).2.1 hx).1) (S.I.ins (X1,p) zw).1.2.at;rw [<- Ps.I] at Mb;go_wp2_with (refine eT 3 (g:=X1) (cs:=p.cells) (S.I.ins (X1,p) zw).1.1 ?_);refine Mb.mono ?_;clear Mb;rintro e A3 ⟨r,rfl,ho,hp,hb⟩;replace S:=aA (S.I.put hb ho (by rw [hp]; exact (by rw [Ps.I]; exact za)));have yc:=aA hp;clear ho hb hp;go_upto_region 6 with (refine ec 7 39 r.cells (Kj _ _) ?_);generalize (A3.alloc (c_ ar 31)).setRow A3.heap.size r.cells=WX3 at *;generalize A3.heap.size=X3 at *;have Mb:=R3 p now _ (S.I.good (x:=(X1,p)) zw);rw [<- hR3.I] at Mb;go_wp2_with (refine eT 3 (g:=X1) (cs:=p.cells) (S.I.ins (X1,p) zw).1.1 ?_);refine Mb.mono ?_;clear Mb;rintro e afT ⟨u,rfl,ho,hp,hb⟩;replace S:=aA (S.I.put hb ho (by rw [hp]; exact (by rw [hR3.I]; exact R0)));have u3:=aA hp;clear ho hb hp;go_upto_region 7 with (refine ec 9 45 u.cells (Kj _ _) ?_);generalize (afT.alloc (c_ ar 31)).setRow afT.heap.size u.cells=WX4 at *;generalize afT.heap.size=X4 at *;have Mb:=um u _ (S.I.good (x:=(X4,u)) zw);go_wp2_with (refine eT 9 (g:=X4) (cs:=u.cells) (S.I.ins (X4,u) zw).1.1 ?_);refine Mb.mono ?_;clear Mb;rintro e B3 ⟨rfl,hb⟩;replace S:=aA (S.I.below hb);clear hb;obtain ⟨id,hid⟩: ∃ id,Hid (id=da u.pure):=⟨_,rfl⟩
 rw [<- hid.I];have HWI:Hid ((Lit.int j_ id).wf=true):=by rw [hid.I]; exact Ek (S.I.ins (X4,u) zw).2.1
 have Mb:=uN u id _ HWI.I (S.I.good (x:=(X4,u)) zw);go_wp2_with (refine eT 9 (g:=X4) (cs:=u.cells) (S.I.ins (X4,u) zw).1.1 ?_);refine Mb.mono ?_;clear Mb;rintro e JB ⟨x,rfl,hm,hx,hb⟩;replace S:=aA (S.I.OS hb hm);have SG:=aA hx;clear hm hx hb;go_upto_region 9 with (refine wpList_store_row rfl 41 (.tmp 12) (.tmp 53) rfl JB.heap.size _ _ (aX x) rfl rfl (Kj _ _) ZcS rfl ZcS ?_);generalize (JB.alloc (c_ cE 41)).setRow JB.heap.size (aX x)=W5 at *;generalize JB.heap.size=YV at *;obtain ⟨c2,hc2⟩: ∃ c,Hid (c=(ew u.pure id).isSome):=⟨_,rfl⟩
 obtain ⟨c,hc⟩: ∃ c,Hid (c=R1.isSome):=⟨_,rfl⟩
 rw [<- hc.I,<- hc2.I];cases c
 case false=>
  go_wp2;go_ret;exact ⟨al zw,S.I.low⟩
 have HF:=aA (ang Ps.I hc.I.symm);have HU:Hid (u.pure=gj now p.pure):=by rw [u3.I,hR3.I,HF.I.1]; rfl
 cases c2
 case false=>
  go_wp2;go_ret;exact ⟨al zw,S.I.low⟩
 have h0: ¬ da u.pure=0:=fun e=>by have h5:=hc2.I; rw [hid.I,e,anC (by rw [HU.I]; exact HF.I.2.1)] at h5; cases h5
 obtain ⟨run,o,f,hO⟩:=HF.I.2.2 (by rw [<- HU.I]; exact h0);rw [<- HU.I,<- b8.I] at hO;have e5:x.toaD=run:=by have h5:=SG.I; rw [hid.I,hO.at_] at h5; exact h5
 subst e5;have HO:=aA hO;have hidx:x.id=id:=hO.id.trans hid.I.symm;have HIX:=aA hidx;obtain ⟨n,hn,hop⟩:=hO.op;clear hO h0 hidx HF HU Ps hR3 hc hc2;have hlt:n < x.prog.length:=(List.getElem?_eq_some_iff.1 hop).1;have i0:(0:Int)<=(n:Int):=zo
 have i1:(n:Int) < (x.prog.length:Int):=zo
 obtain ⟨g,hg,d0,d1,d2,d3⟩:=Jm (S.I.row (YV,x) zw) hop;obtain ⟨-,-,m2,-,m4,-,-,-,-,-,-,-⟩:=bo (S.I.box (YV,x) zw);rw [hg] at m2;rw [hn] at m4;clear hlt hg hop;replace S:=aA (S.I.putO o);go_upto_region 12 with fail;clear hn m2 m4 d0 d1 d2 d3 i0 i1;generalize W5.alloc (c_ #[i_ j_ o.1,i_ j_ o.2.1,i_ j_ o.2.2.1,t_ o.2.2.2] 45)=W6 at *;generalize W5.heap.size=alg at *;have HN:Hid (u.L8.length<=1048576):=(gv (S.I.ins (X4,u) zw).2.1).L8;go_upto_region 13 with fail
 go_loopw [15] (fun i wr=> ∃ k:Nat,k<=u.L8.length/\i=i_ j_ k/\Hid (TqS w' [(X4,u),(X3,r),(X2,q),(X1,p)] [(YV,x)] [(alg,o)] wr)) (fun i _=>u.L8.length - (Go.RowKit.intOf i).toNat)
 case atStart=>exact ⟨0,Ky _,rfl,S⟩
 case round=>
  clear S;obtain ⟨k,hk,rfl,S⟩:=hrel;have hlen:=HN.I;by_cases hlt:k < u.L8.length
  .have i0:(0:Int)<=(k:Int):=zo
   have i1:(k:Int) < (u.L8.length:Int):=zo
   obtain ⟨z,hz⟩: ∃ z,u.L8[k]? =o_ z:=⟨_,Kz hlt⟩
   have HY:=aA (HO.I.all z.toaD (Lr.2 ⟨z,KA hz,rfl⟩));obtain ⟨gs,ha,q0,q1,q2,q3,q4,q5,q6,q7,q8,q9,kY,kV⟩:=cn (S.I.ins (X4,u) zw).1.2.at.1 hz;have HR:=aA (lA (S.I.ins (X4,u) zw).1.2.at.1 hz);have HWZ:Hid ((Lit.int j_ z.id).wf=true):=(cY (S.I.ins (X4,u) zw).2.1 (KA hz)).2.id;have HZL:Hid (z.prog.length<=1048576):=(cY (S.I.ins (X4,u) zw).2.1 (KA hz)).1.prog;obtain ⟨-,-,m2,-⟩:=(S.I.ins (X4,u) zw).1.1.cells;rw [ha] at m2;clear hz ha;replace S:=aA (S.I.putX HR.I);go_upto_region 16 with (refine wpList_store_row rfl 41 (.tmp 16) (.tmp 86) rfl wr.heap.size _ _ (aX z) rfl rfl (Kj _ _) ZcS rfl ZcS ?_);clear m2 HR q0 q1 q2 q3 q4 q5 q6 q7 q8 q9 kY kV;generalize (wr.alloc (c_ cE 41)).setRow wr.heap.size (aX z)=W31 at *;generalize wr.heap.size=X31 at *;obtain ⟨m0,-,-,-,-,-,-,-,-,-,-,-⟩:=bo (S.I.box (X31,z) zw);have Mb:=uN q z.id _ HWZ.I (S.I.good (x:=(X2,q)) zw);go_wp2_with (refine eT 5 (g:=X2) (cs:=q.cells) (S.I.ins (X2,q) zw).1.1 ?_);refine Mb.mono ?_;clear Mb m0;rintro e Mx ⟨y,rfl,hm,hx,hb⟩;replace S:=aA (S.I.OS hb hm);have alm:=aA hx;clear hm hx hb;go_upto_region 17 with (refine wpList_store_row rfl 41 (.tmp 17) (.tmp 92) rfl Mx.heap.size _ _ (aX y) rfl rfl (Kj _ _) ZcS rfl ZcS ?_);generalize (Mx.alloc (c_ cE 41)).setRow Mx.heap.size (aX y)=W32 at *;generalize Mx.heap.size=X32 at *;have HV:Hid (y.toaD=f z.toaD):=by rw [alm.I,HY.I.1]; rfl
   clear alm;by_cases hzi:z.id=id
   .have e1:(z.id == id)=true:=by simp [hzi]
    clear hzi;obtain ⟨m0,-,-,-,-,-,-,-,-,-,-,-⟩:=bo (S.I.box (X31,z) zw);go_wp2;go_roundw
    case rel=>exact ⟨k+1,zo,by go_num,S.I.sub zw⟩
    case measure=>simp [Go.RowKit.intOf]; omega
   have e1:(z.id == id)=false:=by simp [hzi]
   have HE:=aA (HY.I.2.2.2 (fun h=>hzi (h.trans HIX.I)));have HB:=aA HY.I.2.1;rw [<- HV.I] at HE HB;clear HY HV hzi;rcases HE.I with hs | hs
   .have HS:=aA hs
    clear hs HE
    as_aux_lemma=>
     have Mb:=Nl z y _ HS.I.symm HZL.I (S.I.row (X31,z) zw) (S.I.row (X32,y) zw);unfold aX at Mb;obtain ⟨m0,m1,m2,m3,m4,m5,m6,m7,afS,Mm,m10,m11⟩:=bo (S.I.box (X31,z) zw);obtain ⟨n0,n1,n2,n3,n4,n5,n6,n7,n8,n9,n10,n11⟩:=bo (S.I.box (X32,y) zw);go_wp2_with fail;clear m0 m1 m2 m3 m4 m5 m6 m7 afS Mm m10 m11 n0 n1 n2 n3 n4 n5 n6 n7 n8 n9 n10 n11;refine Mb.mono ?_;clear Mb;rintro e Mu ⟨rfl,hb⟩;replace S:=aA (S.I.below hb);clear hb;go_wp2;go_roundw
     case rel=>exact ⟨k+1,zo,by go_num,S.I.sub zw⟩
     case measure=>simp [Go.RowKit.intOf]; omega
   have HNE:Hid (¬ y.Md=z.Md):=by
    rcases hs with h | h
    .exact h.2.2
    .exact (fun e=>by have h5:=h.1; have h6:=h.2.1; have h7:y.toaD.Md=z.toaD.Md:=e; omega)
   have HS:=aA hs;clear hs HE
   as_aux_lemma=>
    have Mb:=al9 z y W32 HB.I.1 HB.I.2.2 HB.I.2.1 (.inl HNE.I);unfold aX at Mb;obtain ⟨m0,m1,m2,m3,m4,m5,m6,m7,afS,Mm,m10,m11⟩:=bo (S.I.box (X31,z) zw);obtain ⟨n0,n1,n2,n3,n4,n5,n6,n7,n8,n9,n10,n11⟩:=bo (S.I.box (X32,y) zw);go_wp2_with fail;clear m0 m1 m2 m3 m4 m5 m6 m7 afS Mm m10 m11 n0 n1 n2 n3 n4 n5 n6 n7 n8 n9 n10 n11;refine Mb.mono ?_;clear Mb;rintro e Mu ⟨rfl,hb⟩;replace S:=aA (S.I.below hb);clear hb;go_upto_region 18 with fail;clear e1;obtain ⟨o0,o1⟩:=S.I.op (X:=alg) (o:=o) zw;obtain ⟨m0,-,-,-,-,-,-,-,-,-,-,-⟩:=bo (S.I.box (X31,z) zw);obtain ⟨VV,hkq⟩: ∃ v,Hid (v=o.1):=⟨_,rfl⟩
    obtain ⟨nq,hnq⟩: ∃ v,Hid (v=o.2.1):=⟨_,rfl⟩
    rw [<- hkq.I] at o0;rw [<- hnq.I] at o1
    go_cut [19] from 103 to 117 (fun v wx=>v=b_ (decide ((VV=15\/VV=16)/\nq=z.id))/\wx=Mu)
    case first=>
     by_cases f1:VV=15
     .have g1:(VV == 15)=true:=by simp [f1]
      by_cases f3:nq=z.id
      .have g3:(nq == z.id)=true:=by simp [f3]
       go_wp2;go_meet;exact ⟨by simp [f1,f3],rfl⟩
      .have g3:(nq == z.id)=false:=by simp [f3]
       go_wp2;go_meet;exact ⟨by simp [f1,f3],rfl⟩
     have g1:(VV == 15)=false:=by simp [f1]
     by_cases f2:VV=16
     .have g2:(VV == 16)=true:=by simp [f2]
      by_cases f3:nq=z.id
      .have g3:(nq == z.id)=true:=by simp [f3]
       go_wp2;go_meet;exact ⟨by simp [f2,f3],rfl⟩
      .have g3:(nq == z.id)=false:=by simp [f3]
       go_wp2;go_meet;exact ⟨by simp [f2,f3],rfl⟩
     have g2:(VV == 16)=false:=by simp [f2]
     go_wp2;go_meet;exact ⟨by simp [f1,f2],rfl⟩
    case rest=>
     obtain ⟨rfl,hw⟩:=hcut;rw [hw];clear hw wc o0 o1 m0;obtain ⟨b,hb⟩: ∃ b,Hid (b=decide ((VV=15\/VV=16)/\nq=z.id)):=⟨_,rfl⟩
     rw [<- hb.I];cases b
     case true=>
      clear hb;go_wp2;go_roundw
      case rel=>exact ⟨k+1,zo,by go_num,S.I.sub zw⟩
      case measure=>simp [Go.RowKit.intOf]; omega
     have HK:Hid (am9 z.toaD y.toaD):=by
      rcases HS.I with h | h
      .exact absurd (decide_eq_true (show (VV=15\/VV=16)/\nq=z.id by rw [hkq.I,hnq.I]; exact ⟨h.1,h.2.1⟩)) (by rw [<- hb.I]; decide)
      .exact h
     obtain ⟨-,-,-,m3,-,-,-,-,-,-,-,-⟩:=bo (S.I.box (X31,z) zw);obtain ⟨-,-,-,n3,-,-,-,-,-,-,n10,-⟩:=bo (S.I.box (X32,y) zw);have f1:decide (z.Md < 3)=false:=decide_eq_false (by have h5:3<=z.Md:=HK.I.1; omega);have f2:decide (y.Md > 1)=false:=decide_eq_false (by have h5:y.Md<=1:=HK.I.2.1; omega);have f3:(y.code != 0)=false:=by have h5:y.code=0:=HK.I.2.2; simp [h5]
     clear hb;go_wp2;go_roundw
     case rel=>exact ⟨k+1,zo,by go_num,S.I.sub zw⟩
     case measure=>simp [Go.RowKit.intOf]; omega
  .have i1: ¬ (k:Int) < (u.L8.length:Int):=zo
   obtain ⟨-,-,m2,-⟩:=(S.I.ins (X4,u) zw).1.1.cells;go_upto_region 21 with fail;clear m2 i1 hlt hk;have HY:=aA (HO.I.all x.toaD HO.I.mem);rw [show x.toaD.id=id from HIX.I] at HY;have Mb:=uN q id _ HWI.I (S.I.good (x:=(X2,q)) zw);go_wp2_with (refine eT 5 (g:=X2) (cs:=q.cells) (S.I.ins (X2,q) zw).1.1 ?_);refine Mb.mono ?_;clear Mb;rintro e Mx ⟨y,rfl,hm,hx,hb⟩;replace S:=aA (S.I.OS hb hm);have alm:=aA hx;clear hm hx hb;go_upto_region 22 with (refine wpList_store_row rfl 41 (.tmp 20) (.tmp 139) rfl Mx.heap.size _ _ (aX y) rfl rfl (Kj _ _) ZcS rfl ZcS ?_);generalize (Mx.alloc (c_ cE 41)).setRow Mx.heap.size (aX y)=W32 at *;generalize Mx.heap.size=X32 at *;have HV:Hid (y.toaD=f x.toaD):=by rw [alm.I,HY.I.1]; rfl
   clear alm;have HE:=aA (HY.I.2.2.1 HIX.I HO.I.st);have HB:=aA HY.I.2.1;rw [<- HV.I] at HE HB;clear HY HV;obtain ⟨o0,o1⟩:=S.I.op (X:=alg) (o:=o) zw;by_cases h1:o.1=1
   .have g1:(o.1 == 1)=true:=by simp [h1]
    have HL:=aA (HE.I.1 h1);have HG:=aA (HO.I.rng h1);clear h1;obtain ⟨-,-,-,-,-,m5,-,-,-,-,-,-⟩:=bo (S.I.box (YV,x) zw);obtain ⟨-,-,-,-,-,n5,-,-,-,-,-,-⟩:=bo (S.I.box (X32,y) zw);have w1:IntKind.i64.wrap (x.left - 1)=x.left - 1:=by have h5:(0<=x.left/\x.left<=1000):=HG.I.1; rw [K8]; omega
    have w2:IntKind.i64.wrap (o.2.1 - 1)=o.2.1 - 1:=by have h5:=HG.I.2; rw [K8]; omega
    have HL2:Hid (y.left=x.left - 1\/(x.left=0/\y.left=o.2.1 - 1)\/(y.left=0/\(x.left=1\/o.2.1=1))):=HL.I;clear HL;generalize y.left=ly at *;generalize x.left=lx at *;generalize o.2.1=on at *;have key: ∃ b1 b2 b3 b4 b5 b6:Bool,Hid ((ly == lx - 1)=b1/\(lx == 0)=b2/\(ly == on - 1)=b3/\(ly == 0)=b4/\(lx == 1)=b5/\(on == 1)=b6):=⟨_,_,_,_,_,_,rfl,rfl,rfl,rfl,rfl,rfl⟩
    obtain ⟨b1,b2,b3,b4,b5,b6,HK⟩:=key;have HT:Hid ((b1 || (b2 && b3) || (b4 && (b5 || b6)))=true):=by
     refine aA ?_;obtain ⟨rfl,rfl,rfl,rfl,rfl,rfl⟩:=HK.I;have h5:=HL2.I;simp only [Bool.or_eq_true,J7,beq_iff_eq];omega
    clear HL2;have x1:=HK.I.1;have x2:=HK.I.2.1;have x3:=HK.I.2.2.1;have x4:=HK.I.2.2.2.1;have x5:=HK.I.2.2.2.2.1;have x6:=HK.I.2.2.2.2.2;cases b1
    case true=>
     go_wp2;go_ret;exact ⟨al zw,S.I.low⟩
    cases b2
    case false=>
     cases b4
     case false=>exact absurd HT.I zw
     cases b5
     case true=>
      go_wp2;go_ret;exact ⟨al zw,S.I.low⟩
     cases b6
     case false=>exact absurd HT.I zw
     go_wp2;go_ret;exact ⟨al zw,S.I.low⟩
    cases b3
    case true=>
     go_wp2;go_ret;exact ⟨al zw,S.I.low⟩
    cases b4
    case false=>exact absurd HT.I zw
    cases b5
    case true=>
     go_wp2;go_ret;exact ⟨al zw,S.I.low⟩
    cases b6
    case false=>exact absurd HT.I zw
    go_wp2;go_ret;exact ⟨al zw,S.I.low⟩
   have g1:(o.1 == 1)=false:=by simp [h1]
   have HM:=aA (HE.I.2 h1);clear h1;go_upto_region 24 with fail;clear g1 o0 o1;rcases HM.I with hm | ⟨h17,hp0,hs⟩
   .have HM2:Hid (¬ y.Md=x.Md\/ ¬ y.pc=x.pc):=hm.imp_left (fun h e=>h (e.trans HO.I.st))
    clear hm HM;have Mb:=al9 x y W32 HB.I.1 HB.I.2.2 HB.I.2.1 HM2.I;unfold aX at Mb;obtain ⟨m0,m1,m2,m3,m4,m5,m6,m7,afS,Mm,m10,m11⟩:=bo (S.I.box (YV,x) zw);obtain ⟨n0,n1,n2,n3,n4,n5,n6,n7,n8,n9,n10,n11⟩:=bo (S.I.box (X32,y) zw);go_wp2_with fail;clear m0 m1 m2 m3 m4 m5 m6 m7 afS Mm m10 m11 n0 n1 n2 n3 n4 n5 n6 n7 n8 n9 n10 n11;refine Mb.mono ?_;clear Mb;rintro e Mu ⟨rfl,hb⟩;replace S:=aA (S.I.below hb);clear hb;go_wp2;go_ret;exact ⟨al zw,S.I.low⟩
   .have HS:=aA hs
    have HXL:Hid (x.prog.length<=1048576):=by
     obtain ⟨i,hi⟩:=List.mem_iff_getElem?.1 HO.I.mem;have hm:=HO.I.mem;obtain ⟨v,hv,e⟩:=Lr.1 hm;have h5:=(cY (S.I.ins (X4,u) zw).2.1 hv).1.prog;have h6:v.toaD.prog.length<=1048576:=h5;rw [e] at h6;exact h6
    have H17:=aA h17;have HP0:=aA hp0;clear hs h17 hp0 HM;have Mb:=Nl x y _ HS.I.symm HXL.I (S.I.row (YV,x) zw) (S.I.row (X32,y) zw);unfold aX at Mb;obtain ⟨m0,m1,m2,m3,m4,m5,m6,m7,afS,Mm,m10,m11⟩:=bo (S.I.box (YV,x) zw);obtain ⟨n0,n1,n2,n3,n4,n5,n6,n7,n8,n9,n10,n11⟩:=bo (S.I.box (X32,y) zw);go_wp2_with fail;clear m0 m1 m2 m3 m4 m5 m6 m7 afS Mm m10 m11 n0 n1 n2 n3 n4 n5 n6 n7 n8 n9 n10 n11;refine Mb.mono ?_;clear Mb;rintro e Mu ⟨rfl,hb⟩;replace S:=aA (S.I.below hb);clear hb;obtain ⟨o0,o1⟩:=S.I.op (X:=alg) (o:=o) zw;obtain ⟨-,-,-,-,m4,-,-,-,-,-,-,-⟩:=bo (S.I.box (YV,x) zw);rw [H17.I] at o0;rw [show x.pc=0 from HP0.I] at m4;go_wp2;go_ret;exact ⟨al zw,S.I.low⟩
end
end Go.Proofs.YtfncpmaefninjaaGreatDoor
