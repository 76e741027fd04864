/- What the proof leans on, part 13. -/
import Derived.Test.YtfncpmaefninjaaGreatDoorOwnQ10
import Derived.Test.YtfncpmaefninjaaGreatDoorOwnQ11
import Derived.Test.YtfncpmaefninjaaGreatDoorOwnQ12
import Derived.Lib.SliceRun
set_option linter.all false
set_option maxRecDepth 100000
set_option maxHeartbeats 8000000
open Go.Proofs.Tryz
open Go renaming World->w_,Value->v_,Calls->k_,Addr->d_,TypeId->T_,below_setRow->q_
open Go.Ending renaming returned->r_
open Go.IntKind renaming i64->j_
open Go.Obj renaming cells->c_
open Go.RowKit renaming Below->B_,Hid->bN
open Go.Value renaming int->i_,slice->s_,bool->b_,string->t_,agg->a_,pointer->p_,tuple->u_
open Option renaming some->o_,none->n_
open Go renaming wp_at_succ->Kd,wp_at_zero->Kc
open Go.Proofs.Tryz renaming prog->J3
open List renaming cons_append->Qw,filterMap_cons->LH,getElem_cons_succ->K1,getElem_cons_zero->K0,getElem_toArray->KZ,length_cons->Lg,length_nil->K4,nil_append->Ll
open Option renaming map_some->J9

open Go.RowKit
namespace Go.Proofs.YtfncpmaefninjaaGreatDoor
section
open Go.Maps
def aZ.ju (S:aZ) (g:Nat) (f:ao->ao) (nx:Int):aZ:= { S with q:= { S.q with next:=nx },lp:=sU g f S.lp }
def GW {g:Nat} {f:ao->ao} (hf: ∀ x,aR.bt (f x)=aR.bt x) (l:List (ao × Nat)):kids aR (sU g f l)=kids aR l:=by
 induction l with
 | nil=>rfl
 | cons p r ih=>
  have e:(sU g f (p :: r))=(if p.2=g then (f p.1,p.2) else p) :: sU g f r:=rfl;simp only [kids,LH] at ih ⊢;rw [e];simp only [LH];by_cases h:p.2=g
  .simp only [h,if_true,hf]
   rw [ih]
  .simp only [h,if_false]
   rw [ih]
def cJ.ju {w w':w_} {bj o g:Nat} {S:aZ} {f:ao->ao} {nx:Int} (h:cJ w bj o S) (hf: ∀ x,(f x).id=x.id/\(f x).prog=x.prog/\(f x).aY=x.aY/\(f x).bH=x.bH)
  (hc: ∀ p∈S.lp,p.2=g->w'.heap[g]? =o_ (c_ (aX (f p.1)) 41)) (hg:g∈S.lp.map (·.2)) (ho:fa w' o { S.q with next:=nx }) (hs: ∀ b,b≠g->b≠o->w'.heap[b]? =w.heap[b]?):cJ w' bj o (S.ju g f nx):=by
 have iH: ∀ x,aR.bt (f x)=aR.bt x:=fun x=>by show (f x).aY.map (·.block)=x.aY.map (·.block); rw [(hf x).2.2.1]
 have hn:=h.nodup;have hno:=(Lp.1 hn).1;have yD:=(Kf.1 (Lp.1 hn).2)
 have jQ:=yD.1;unfold aZ.boxes at jQ;have hin: ∀ b,b∈S.boxes\/b∈S.kids->b≠o:=fun b hb e=>hno (by rw [<- e]; exact Kg.2 hb)
 have hp:=Kf.1 jQ;have l9:g∈S.q.bp :: S.lp.map (·.2):=LB _ hg;have hgr: ∀ b,b∈((S.q.bs :: S.ls.map (·.2)) ++ ((S.q.be :: S.le.map (·.2)) ++ ((S.q.bb :: S.lb.map (·.2)) ++ ((S.q.bf :: S.lf.map (·.2)) ++ (S.q.bq :: S.lq.map (·.2))))))->b≠g:=fun b hb e=>hp.2.2 g l9 b hb e.symm
 have EI: ∀ b∈S.kids,b≠g:=fun b hb e=>yD.2.2 g (by unfold aZ.boxes; exact Lz _ l9) b hb e.symm
 have hbp:S.q.bp≠g:=fun e=>by
  have:=(Lp.1 hp.1).1
  rw [e] at this;exact this hg
 have lW: ∀ b,b∈(S.q.bp :: S.lp.map (·.2))->b≠o:=fun b hb=>hin b (.inl (by unfold aZ.boxes; exact Lz _ hb))
 have hbr: ∀ b,b∈((S.q.bs :: S.ls.map (·.2)) ++ ((S.q.be :: S.le.map (·.2)) ++ ((S.q.bb :: S.lb.map (·.2)) ++ ((S.q.bf :: S.lf.map (·.2)) ++ (S.q.bq :: S.lq.map (·.2))))))->w'.heap[b]? =w.heap[b]? :=fun b hb=>hs b (hgr b hb) (hin b (.inl Zdf))
 have hkk: ∀ b∈S.kids,w'.heap[b]? =w.heap[b]? :=fun b hb=>hs b (EI b hb) (hin b (.inr hb))
 have hmem: ∀ (b:Nat),(b∈kids aR S.lp\/b∈kids aC S.lf\/b∈kids aU S.lq)->b∈S.kids:=fun b hb=>by simp only [aZ.kids,Kg]; exact hb
 refine ⟨ho,h.L8.sU (fun p _ _=>(hf p.1).1) hc (hs _ hbp (lW _ zw)) (fun b hb hne=>hs b hne (lW b (LB _ hb))),h.aj.same fun b hb=>hbr b (Lz _ hb),h.L9.same fun b hb=>hbr b (Ly _ (Lz _ hb)),h.ag.same fun b hb=>hbr b (Ly _ (Ly _ (Lz _ hb))),h.ae.same fun b hb=>hbr b (Ly _ (Ly _ (Ly _ (Lz _ hb)))),h.ai.same fun b hb=>hbr b (Ly _ (Ly _ (Ly _ (Ly _ hb)))),fun p hp'=> ?_,fun p hp'=>(h.eE p hp').same fun b hb=>hkk b (hmem b (.inr (.inl (Lq.2 ⟨p,hp',hb⟩)))),fun p hp'=>(h.eR p hp').same fun b hb=>hkk b (hmem b (.inr (.inr (Lq.2 ⟨p,hp',hb⟩)))),?_,h.low⟩
 .exact Q4
 .exact ZaM
end
section
open Go.Maps
attribute [local go_sem ↓] Kc Kd
def xX {z:Int} (h:cv z 1 1000=true):(Lit.int j_ z).wf=true:=by
 have h2:=bz.1 h;have e1:IntKind.min j_<=0:=by decide
 have e2:100000<=IntKind.max j_:=by decide
 simp only [Lit.wf,J7,decide_eq_true_eq];omega
def iB {S:aZ} (h:aQ S.pure):S.Fits:=by
 refine ⟨?_,?_,?_,?_,?_,?_,?_,?_,?_,?_,?_,?_⟩
 .have h5:=h.dl
  have h6:S.pure.L8.length=S.lp.length:=by simp [aZ.pure]
  omega
 .intro p hp
  obtain ⟨r,hr,rfl⟩:=Lr.1 hp;exact xX (cK h.L8 (r.1.toaD) (Lr.2 ⟨r,hr,rfl⟩)).1
 .have h5:=h.fx
  have h6:S.pure.aj.length=S.ls.length:=by simp [aZ.pure]
  omega
 .intro p hp
  obtain ⟨r,hr,rfl⟩:=Lr.1 hp;exact xX (cK h.aj (r.1) (Lr.2 ⟨r,hr,rfl⟩)).1
 .have h5:=h.cD
  have h6:S.pure.L9.length=S.le.length:=by simp [aZ.pure]
  omega
 .intro p hp
  obtain ⟨r,hr,rfl⟩:=Lr.1 hp;exact xX (cK h.L9 (r.1) (Lr.2 ⟨r,hr,rfl⟩)).1
 .have h5:=h.cC
  have h6:S.pure.ag.length=S.lb.length:=by simp [aZ.pure]
  omega
 .intro p hp
  obtain ⟨r,hr,rfl⟩:=Lr.1 hp;exact xX (cK h.ag (r.1) (Lr.2 ⟨r,hr,rfl⟩)).1
 .have h5:=h.cb
  have h6:S.pure.ae.length=S.lf.length:=by simp [aZ.pure]
  omega
 .intro p hp
  obtain ⟨r,hr,rfl⟩:=Lr.1 hp;exact xX (cK h.ae (r.1.toci) (Lr.2 ⟨r,hr,rfl⟩)).1
 .have h5:=h.dH
  have h6:S.pure.ai.length=S.lq.length:=by simp [aZ.pure]
  omega
 .intro p hp
  obtain ⟨r,hr,rfl⟩:=Lr.1 hp;exact xX (cK h.ai (r.1.todS) (Lr.2 ⟨r,hr,rfl⟩)).1
def NU {S:aZ} {g:Nat} {f:ao->ao} {nx:Int} (h:S.Fits) (hf: ∀ x,(f x).id=x.id):(S.ju g f nx).Fits:=by
 have e:RW (fun x:ao=>x.id) (sU g f S.lp)=RW (fun x:ao=>x.id) S.lp:=Al fun p _ _=>hf p.1
 refine ⟨?_,?_,h.fx,h.adG,h.cD,h.G4,h.cC,h.FP,h.cb,h.DW,h.dH,h.Jz⟩
 .show (sU g f S.lp).length<=_
  unfold sU;rw [KG];exact h.dl
 .show ∀ p∈RW (fun x:ao=>x.id) (sU g f S.lp),_
  rw [e];exact h.Jl
def wE (o g:Nat) (nx:Int) (w:w_) (h1:w.cell? ⟨o,1,n_⟩=o_ (i_ j_ nx)) (f1:w.frozen? ⟨o,1,n_⟩=false) (h2: ∃ u,w.cell? ⟨g,11,n_⟩=o_ u) (f2:w.frozen? ⟨g,11,n_⟩=false) (hne: ¬ o=g) (n0:0<=nx) (n1:nx<=1000000000):
  k_ J3 104 #[p_ (o_ ⟨o,0,n_⟩),p_ (o_ ⟨g,0,n_⟩)] w fun e w'=>e=r_ (u_ #[])/\w'=(w.setCell ⟨g,11,n_⟩ (i_ j_ nx)).setCell ⟨o,1,n_⟩ (i_ j_ (nx+1)):=by
 obtain ⟨u,h2⟩:=h2;have k1:(w.setCell ⟨g,11,n_⟩ (i_ j_ nx)).cell? ⟨o,1,n_⟩=o_ (i_ j_ nx):=(J1 (aH hne)).trans h1;have k2:(w.setCell ⟨g,11,n_⟩ (i_ j_ nx)).frozen? ⟨o,1,n_⟩=false:=(World.frozen?_of_block (aH hne)).trans f1
 go_enter func104,ntmps104
 go_wp2
 go_end0
 exact ⟨rfl,rfl⟩
def F2 (nx:Int) (y:ao):ao:= { y with Md:=1,RU:=nx }
def aI.cell {w:w_} {g i:Nat} {v:v_} :aI w (w.setCell ⟨g,i,n_⟩ v) [g] :=aI.set (off:=i) [v] zw
def ajh (o g bj:Nat) (S:aZ) (x:ao) (w:w_) (h:cJ w bj o S) (hx:(x,g)∈S.lp) (n0:0<=S.q.next) (n1:S.q.next<=1000000000):
  k_ J3 194 #[p_ (o_ ⟨o,0,n_⟩),p_ (o_ ⟨g,0,n_⟩)] w fun e w'=>e=r_ (u_ #[])/\cJ w' bj o (S.ju g (F2 S.q.next) (S.q.next+1))/\aI w w' [g,o] :=by
 have hgb:w.heap[g]? =o_ (c_ (aX x) 41):=h.L8.box (x,g) hx;have bR:g∈S.lp.map (·.2):=Lr.2 ⟨(x,g),hx,rfl⟩;have hno: ¬ o=g:=fun e=>by
  exact Zbx
 have CT:=cx (i:=3) (v:=i_ j_ 1) hgb;have c3:w.cell? ⟨g,3,n_⟩=o_ (i_ j_ x.Md):=(bo hgb).2.2.2.1;have z3:w.frozen? ⟨g,3,n_⟩=false:=Ko _ _ _ _ _ hgb;have HC:bN ((w.setCell ⟨g,3,n_⟩ (i_ j_ 1)).cell? ⟨o,1,n_⟩=o_ (i_ j_ S.q.next)/\(w.setCell ⟨g,3,n_⟩ (i_ j_ 1)).frozen? ⟨o,1,n_⟩=false/\(∃ u,(w.setCell ⟨g,3,n_⟩ (i_ j_ 1)).cell? ⟨g,11,n_⟩=o_ u)/\(w.setCell ⟨g,3,n_⟩ (i_ j_ 1)).frozen? ⟨g,11,n_⟩=false):=⟨(J1 (aH hno)).trans (h.opn.cell 1),(World.frozen?_of_block (aH hno)).trans (Ko _ _ _ _ _ h.opn),⟨i_ j_ x.RU,by simp [World.cell?,CT,aX]⟩,Ko _ _ _ _ _ CT⟩
 have HE:bN (cJ (((w.setCell ⟨g,3,n_⟩ (i_ j_ 1)).setCell ⟨g,11,n_⟩ (i_ j_ S.q.next)).setCell ⟨o,1,n_⟩ (i_ j_ (S.q.next+1))) bj o (S.ju g (F2 S.q.next) (S.q.next+1))/\aI w (((w.setCell ⟨g,3,n_⟩ (i_ j_ 1)).setCell ⟨g,11,n_⟩ (i_ j_ S.q.next)).setCell ⟨o,1,n_⟩ (i_ j_ (S.q.next+1))) [g,o]):=by
  refine ⟨h.ju (fun y=>⟨rfl,rfl,rfl,rfl⟩) (fun p hp hpg=> ?_) bR ?_ fun b hb hb2=>(aH hb2).trans ((aH hb).trans (aH hb)),((aI.cell.trans aI.cell).mono zw).trans (aI.cell.mono zw)⟩
  .have e:=h.L8.one hp hx hpg
   subst e;have h5:=(aH (i:=1) (v:=i_ j_ (S.q.next+1)) (fun e=>hno e.symm:g≠o)).trans (cx (i:=11) (v:=i_ j_ S.q.next) CT);exact h5
  .have h5:((w.setCell ⟨g,3,n_⟩ (i_ j_ 1)).setCell ⟨g,11,n_⟩ (i_ j_ S.q.next)).heap[o]? =_:=((aH hno).trans (aH hno)).trans h.opn
   exact cx (i:=1) (v:=i_ j_ (S.q.next+1)) h5
 clear hgb bR CT h hx
 go_enter func194,ntmps194
 go_wp2_with fail;refine (wE o g S.q.next _ HC.I.1 HC.I.2.1 HC.I.2.2.1 HC.I.2.2.2 hno n0 n1).mono ?_;rintro e w2 ⟨rfl,rfl⟩;go_wp2
 go_end0
 exact ⟨rfl,HE.I.1,HE.I.2⟩
end
section
section
variable {α:Type} {num:α->Int} {ok:α->Bool}
def bY (num:α->Int) (x:α):List α->List α
 | [] => [x]
 | y :: r=>if num x < num y then x :: y :: r else y :: bY num x r
def cA (num:α->Int) (x:α):List α->List α
 | [] => [x]
 | y :: r=>if num y < num x then y :: cA num x r else x :: y :: r
def er (x:α): ∀ l:List α,(bY num x l).length=l.length+1
 | [] =>rfl
 | y :: r=>by
  simp only [bY]
  split
  .rfl
  .simp [er x r]
def fq {x z:α} : ∀ {l:List α},z∈bY num x l↔z=x\/z∈l
 | [] =>by simp [bY]
 | y :: r=>by
  simp only [bY]
  split
  .simp
  .simp only [Kt,fq (l:=r)]
   constructor
   .exact P_
   .exact P_
def js {x z:α} : ∀ {l:List α},z∈cA num x l↔z=x\/z∈l
 | [] =>by simp [cA]
 | y :: r=>by
  simp only [cA]
  split
  .simp only [Kt,js (l:=r)]
   constructor
   .exact P_
   .exact P_
  .simp
def eJ (x:α): ∀ l:List α,(cA num x l).length=l.length+1
 | [] =>rfl
 | y :: r=>by
  simp only [cA]
  split
  .simp [eJ x r]
  .rfl
def tP {x:α} : ∀ {l:List α} {k:Nat},(∀ y∈l.take k,num y < num x)->(∀ y,l[k]? =o_ y-> ¬ num y < num x)->l.take k ++ x :: l.drop k=cA num x l
 | [],k,_,_=>by simp [cA]
 | y :: r,0,_,h2=>by
  have h3:=h2 y rfl;simp [cA,h3]
 | y :: r,k+1,h1,h2=>by
  have h3:=h1 y zw;simp only [List.take_succ_cons,List.drop_succ_cons,Qw,cA,if_pos h3];rw [tP (fun z hz=>h1 z (by simp [hz])) (fun z hz=>h2 z (by simpa using hz))]
end
def cB (p p':aE):Option aE:=if bK p && bK p' then o_ p' else n_
end
section
open Go.Maps
def cJ.lt {w:w_} {bj o:Nat} {S:aZ} (h:cJ w bj o S): ∀ c∈o :: (S.boxes ++ S.kids),c < w.heap.size:=fun c hc=>by
 simp only [aZ.boxes,aZ.kids,Kt,Kg] at hc;rcases hc with rfl | ((hc | hc | hc | hc | hc | hc) | hc | hc | hc)
 .exact (J2.1 h.opn).1
 .exact h.L8.lt c (Kt.2 hc)
 .exact h.aj.lt c (Kt.2 hc)
 .exact h.L9.lt c (Kt.2 hc)
 .exact h.ag.lt c (Kt.2 hc)
 .exact h.ae.lt c (Kt.2 hc)
 .exact h.ai.lt c (Kt.2 hc)
 .obtain ⟨r,hr,hk⟩:=Lq.1 hc
  exact ((h.eI r hr).lt hk).2
 .obtain ⟨r,hr,hk⟩:=Lq.1 hc
  exact ((h.eE r hr).lt hk).2
 .obtain ⟨r,hr,hk⟩:=Lq.1 hc
  exact ((h.eR r hr).lt hk).2
def cJ.drew {w:w_} {bj o:Nat} {S:aZ} (h:cJ w bj o S):cJ w.drew bj o S:=
 ⟨h.opn,h.L8.same fun _ _=>rfl,h.aj.same fun _ _=>rfl,h.L9.same fun _ _=>rfl,h.ag.same fun _ _=>rfl,h.ae.same fun _ _=>rfl,h.ai.same fun _ _=>rfl,fun p hp=>(h.eI p hp).same fun _ _=>rfl,fun p hp=>(h.eE p hp).same fun _ _=>rfl,fun p hp=>(h.eR p hp).same fun _ _=>rfl,h.nodup,h.low⟩
def ld (w:w_) (a:Option d_) (xs:List v_):Prop:= ∀ j u,xs[j]? =o_ u-> ∃ ad,a=o_ ad/\w.cell? (ad.add j)=o_ u
def ld.nil {w:w_} {a:Option d_} :ld w a [] :=fun j u hu=>by cases hu
def ld.none {w:w_} {xs:List v_} (h:ld w n_ xs):xs= [] :=by
 cases xs with
 | nil=>rfl
 | cons u r=>
  obtain ⟨ad,e,_⟩:=h 0 u rfl;cases e
def jD {P:Program} (w:w_) (bj:Nat) (t ty e:T_) (i:TypeInfo) (z:v_) (size bytes:Nat) (ht:P.underlying t=o_ (.slice e)) (hi:P.info? e=o_ i) (hz:i.zero=o_ z)
  (hsize:i.size=size) (hby:i.bytes=bytes) (hzs:z.cells.size=size) (hsz:0 < size) (a0:Option d_) (n0 c0:Nat) (ys:List v_) (ho:w.ownsRow bj e size (s_ a0 n0 c0) n0 ys)
  (a:Option d_) (n cap:Nat) (xs:List v_) (h:ld w a xs) (hl:xs.length=n * size) (h1: ∀ u∈xs,u.oneCell'=true) (h63:n0+n<=4000000) (hb:bytes<=1000) (lY:bj<=w.heap.size):
  ∃ a' cap' w',(Builtin.append_ #[t,t] ty #[s_ a0 n0 c0,s_ a n cap]).run P w= .ok (s_ a' (n0+n) cap') w'/\w'.ownsRow bj e size (s_ a' (n0+n) cap') (n0+n) (ys ++ xs)/\w.grownBy w' (Value.slice a0 n0 c0).ownBlock/\ ∀ g∈blk a',g∈blk a0\/g=w.heap.size:=by
 cases a with
 | none=>
  have hx:=h.none;subst hx;have hn:n=0:=by
   cases n with
   | zero=>rfl
   | succ n=>simp only [K4,Lh] at hl; omega
  subst hn;refine ⟨a0,c0,w,?_,by simpa using ho,⟨rfl,rfl,rfl,Ki _,fun _ _ _=>rfl⟩,fun g hg=> .inl hg⟩;have hc:n0<=c0:=by
   obtain ⟨-,⟨e1,e2⟩ | ⟨g,c,cur,e1,-,-,h5,-⟩⟩:=ho
   .cases e1; exact Ki _
   .cases e1; exact h5
  cases a0 <;> simp [Builtin.append_,run_underlying ht,sizeOf,typeInfo,hi,Builtin.lenOf,Builtin.firstCells,storeCells,hc]
 | some ad=>
  have hnews: ∀ j u,xs[j]? =o_ u->w.cell? (ad.add j)=o_ u:=fun j u hu=>by
   obtain ⟨ad',e',hc⟩:=h j u hu;cases e';exact hc
  obtain ⟨v',w',hr,ho',hgr,-,hbl⟩:=run_append_own_at (P:=P) w bj t ty e i z size bytes ht hi hz hsize hby hzs hsz (s_ a0 n0 c0) n0 ys ho ad n cap xs hl hnews h1 Zcw (by have:=Nat.mul_le_mul h63 hb; omega) lY;obtain ⟨a',cap',rfl,-⟩:=cr ho';refine ⟨a',cap',w',hr,ho',hgr,fun g hg=> ?_⟩;rw [fZ] at hg ⊢;cases a' with
  | none=>cases hg
  | some ad'=>
   simp only [J9,LF] at hg;subst hg;rcases hbl with hbl | hbl
   .refine .inl ?_
    cases a0 with
    | none=>cases hbl
    | some ad0=>simpa [Value.ownBlock] using hbl.symm
   .exact .inr Zdc
def qv {Z A A' R:List Nat} (h:(Z ++ (A ++ R)).Nodup) (hA:A'.Nodup) (h1: ∀ g∈A',g∉Z ++ (A ++ R)):(Z ++ (A' ++ R)).Nodup:=by
 simp only [Kg,not_or] at h1;simp only [Kf,Kg] at h ⊢;obtain ⟨hz,⟨-,hR,-⟩,hzz⟩:=h;refine ⟨hz,⟨hA,hR,fun a ha b hb e=>(h1 a ha).2.2 (e ▸ hb)⟩,fun a ha b hb e=> ?_⟩;rcases hb with hb | hb
 .exact (h1 b hb).1 (e ▸ ha)
 .exact hzz a ha b (.inr hb) e
def Hj (g m j:Nat):(⟨g,m,n_⟩:d_).add j=⟨g,m+j,n_⟩:=by unfold Addr.add; split <;> simp_all
def FH {α:Type} {K:Kind α} {w:w_} {a:Option d_} {l:List α} (k:Nat) (h:Row w a (K.flat l)):ld w (a.map (·.add (k * K.n))) (K.flat (l.drop k)):=fun j u hu=>by
 by_cases hk:k<=l.length
 .have e:K.flat l=K.flat (l.take k) ++ K.flat (l.drop k):=by rw [<- K.dc,Qn]
  have hl:(K.flat (l.take k)).length=k * K.n:=by rw [K.dM,Lk,Nat.min_eq_left hk]
  have hu2:(K.flat l)[k * K.n+j]? =o_ u:=by
   rw [e,Qo zo,hl,Nat.add_sub_cancel_left];exact hu
  obtain ⟨g,rfl,hc⟩:=h _ u hu2;exact ⟨⟨g,k * K.n,n_⟩,by rw [J9,qZ],by rw [Hj]; exact hc⟩
 .rw [List.drop_eq_nil_of_le zo] at hu
  cases hu
def IS {w:w_} {a:Option d_} {xs:List v_} (h:Row w a xs):ld w a xs:=fun j u hu=>by
 obtain ⟨g,rfl,hc⟩:=h j u hu;exact ⟨_,rfl,by rw [qZ]; exact hc⟩
def uM {α:Type} {K:Kind α} {w:w_} {a:Option d_} {l:List α} (k:Nat) (h:Row w a (K.flat l)):ld w a (K.flat (l.take k)):=fun j u hu=>by
 have e:K.flat l=K.flat (l.take k) ++ K.flat (l.drop k):=by rw [<- K.dc,Qn]
 have hu2:(K.flat l)[j]? =o_ u:=by
  rw [e,Qp (Lj.1 hu).1];exact hu
 exact IS h j u hu2
def nV {w:w_} {bj size n c:Nat} {e:T_} {a:Option d_} {xs:List v_} (h:w.ownsRow bj e size (s_ a n c) n xs):n<=c:=by
 obtain ⟨-,⟨e1,e2⟩ | ⟨g,c',cur,e1,-,-,h5,-⟩⟩:=h
 .cases e1; exact Ki _
 .cases e1; exact h5
def jO {w:w_} {g:Nat} {cs:Array v_} {t:T_} {aaO:Nat × Nat} (h:w.heap[g]? =o_ (c_ cs t aaO)):ld w (o_ ⟨g,0,n_⟩) cs.toList:=fun j u hu=>⟨_,rfl,by rw [qZ]; simp only [World.cell?,h]; simpa using hu⟩
def ja {w:w_} {o i:Nat} {v:v_} :(w.setCell ⟨o,i,n_⟩ v).heap.size=w.heap.size:=fH [v]
def qK {α:Type} {K:Kind α} {w:w_} {a:Option d_} {l:List α} {k c:Nat} (hk:l.length<=c) (h:Row w a (K.flat l)):ld w (if c=k then a else Option.map (fun x=>x.add (k * K.n)) a) (K.flat (l.drop k)):=by
 split
 .rw [List.drop_eq_nil_of_le zo]
  exact ld.nil
 .exact FH k h
def jS {p p':aE} (h:(bK p && bK p')=true):cB p p'=o_ p':=if_pos h
def jh {p p':aE} (h:(bK p && bK p')=false):cB p p'=n_:=if_neg (by rw [h]; decide)
def zm {α:Type} (num:α->Int) (id:Int) (l:List α) (k:Nat):(∃ x,l[k]? =o_ x/\num x < id/\k < l.length)\/(∃ x,l[k]? =o_ x/\ ¬ num x < id/\k < l.length)\/ ¬ k < l.length:=by
 by_cases h:k < l.length
 .by_cases h2:num l[k] < id
  .exact .inl ⟨_,Kz h,h2,h⟩
  .exact .inr (.inl ⟨_,Kz h,h2,h⟩)
 .exact .inr (.inr h)
structure yr (w:w_) (bj:Nat) (q q2:af) (W:w_):Prop where
 own:ap W bj q2
 kept:aI w W q.Mc
 far: ∀ g∈q2.Mc,g∈q.Mc\/w.heap.size<=g
def rn {α:Type} {K:Kind α} {T:T_} {w:w_} {bj cap n gs j:Nat} {a:Option d_} {l:List α} {x y:α} {v:v_} (h:w.ownsRow bj T K.n (s_ a l.length cap) l.length (K.flat l)) (hx:l[n]? =o_ x) (ha:a=o_ ⟨gs,0,n_⟩) (hj:j < K.n) (hv:K.vals y=(K.vals x).set j v):
  (w.setCell ⟨gs,n * K.n+j,n_⟩ v).ownsRow bj T K.n (s_ a l.length cap) l.length (K.flat (l.set n y))/\aI w (w.setCell ⟨gs,n * K.n+j,n_⟩ v) (blk a)/\(∃ u,w.cell? ⟨gs,n * K.n+j,n_⟩=o_ u)/\w.frozen? ⟨gs,n * K.n+j,n_⟩=false:=by
 have hn:n < l.length:=(Lj.1 hx).1;obtain ⟨g,hg,hrow⟩:=bl.fX (K:=K) h zo;rw [ha] at hg;cases hg;have h7:=hrow.cell hx (r:=j) hj;have hsp:=kL hx;have hset:l.set n y=l.take n ++ y :: l.drop (n+1):=by rw [RJ,if_pos hn]
 have hl:(l.take n).length=n:=by rw [Lk]; omega
 rw [hsp] at hrow;have h5:=bl.part (K:=K) (x:=x) (y:=y) (j:=j) (vs:= [v]) hrow Zcr (fun r hr=>by simp at hr; subst hr; rw [Nat.add_zero,hv,LU (by rw [K.len]; exact hj)]; rfl) (fun r hr hn=>by rw [hv,List.getElem?_set_ne (by simp at hn; omega)]);rw [hl,<- hset] at h5;have h6:=h5.owns;rw [LI] at h6;rw [ha];exact ⟨h6,aI.set (vs:= [v]) (by simp [blk]),⟨_,h7.1.trans (Kz (by rw [K.len]; exact hj))⟩,h7.2⟩
def uX {P1 P2:List Nat} {a b:Option Nat} (h:(P1 ++ (a.toList ++ P2)).Nodup) (hb: ∀ g,b=o_ g->g∉P1/\g∉P2):(P1 ++ (b.toList ++ P2)).Nodup:=by
 obtain ⟨h1,h2,h3⟩:=Kf.1 h;obtain ⟨-,h5,-⟩:=Kf.1 h2;refine Kf.2 ⟨h1,Kf.2 ⟨by cases b <;> simp,h5,fun x hx y hy e=> ?_⟩,fun x hx y hy e=> ?_⟩
 .cases b with
  | none=>simp at hx
  | some g=>simp at hx; subst hx; exact (hb x rfl).2 (e ▸ hy)
 .rcases Kg.1 hy with hy | hy
  .cases b with
   | none=>simp at hy
   | some g=>simp at hy; subst hy; exact (hb y rfl).1 (e ▸ hx)
  .exact h3 x hx y (Ly _ hy) e
def ou (w:w_) (bj:Nat) (a0:Option d_) (c0:Nat) (l0:List ByteArray) (ho:w.ownsRow bj 9 1 (s_ a0 l0.length c0) l0.length (bT.flat l0)) (a:Option d_) (l:List ByteArray) (cap:Nat) (h:ld w a (bT.flat l)) (hl:l0.length+l.length<=4000000) (lY:bj<=w.heap.size):
  ∃ a' cap' w',(Builtin.append_ #[94,94] 94 #[s_ a0 l0.length c0,s_ a l.length cap]).run J3 w= .ok (s_ a' (l0.length+l.length) cap') w'/\w'.ownsRow bj 9 1 (s_ a' (l0.length+l.length) cap') (l0.length+l.length) (bT.flat (l0 ++ l))/\w.grownBy w' (Value.slice a0 l0.length c0).ownBlock/\ ∀ g∈blk a',g∈blk a0\/g=w.heap.size:=by
 obtain ⟨i,hi,e⟩:=Kw.1 zD;simp only [Kx] at e;rw [bT.dc];exact jD w bj _ _ 9 i _ 1 16 underlying94 hi e.1 e.2.1 e.2.2 rfl (by decide) a0 l0.length c0 _ ho a l.length cap _ h (bT.dM l) yK hl (by decide) lY
def IN (w:w_) (s:ByteArray):(w.alloc (c_ #[t_ s] 9)).ownsRow w.heap.size 9 1 (s_ (o_ ⟨w.heap.size,0,n_⟩) [s].length 1) [s].length (bT.flat [s]):=
 ⟨rfl,.inr ⟨w.heap.size,1,#[t_ s],rfl,Ki _,Kj _ _,Ki _,by decide,rfl,rfl⟩⟩
def vg {w:w_} {a:Option d_} {l:List ByteArray} {c:Nat} (hk:l.length<=c) (h:Row w a (bT.flat l)):ld w (if c=1 then a else Option.map (fun x:d_=>⟨x.block,x.off+1,n_⟩) a) (bT.flat (l.drop 1)):=by
 have h1:=qK (K:=bT) (k:=1) hk h;have e:(fun x:d_=>x.add (1 * bT.n))=(fun x:d_=>⟨x.block,x.off+1,n_⟩):=by funext x; rfl
 rw [e] at h1;exact h1
def aI.grown {w w5 w7:w_} {a:Option d_} {n c:Nat} (hb:B_ w.heap.size w w5) (hg:w5.grownBy w7 (Value.slice a n c).ownBlock):aI w w7 (blk a):=
 ⟨hg.os.trans hb.os,hg.tape.trans hb.tape,hg.output.trans hb.output,LG hb.size hg.size,fun g h1 h2=>(hg.block g (Kn h1 hb.size) fun e=>h2 (di e.symm)).trans (hb.block g h1)⟩
section
variable {w W:w_} {bj n gs:Nat} {q:af}
def pg {x:aM} {l:List ByteArray} {a:Option d_} {c:Nat} (h:ap w bj q) (hb:aI w W (blk x.ak)) (hx:q.ai[n]? =o_ x) (ha:q.aK=o_ ⟨gs,0,n_⟩) (ho:W.ownsRow bj 9 1 (s_ a l.length c) l.length (bT.flat l)) (hf: ∀ g∈blk a,g∈blk x.ak\/w.heap.size<=g):
  yr w bj q ({ q with ai:=q.ai.set n { x with Ma:=l,ak:=a,aq:=c } } :af) (W.setCell ⟨gs,n * 5+4,n_⟩ (s_ a l.length c))/\(∃ u,W.cell? ⟨gs,n * 5+4,n_⟩=o_ u)/\W.frozen? ⟨gs,n * 5+4,n_⟩=false:=by
 have hn:n < q.ai.length:=(Lj.1 hx).1;have hset:q.ai.set n { x with Ma:=l,ak:=a,aq:=c } =q.ai.take n ++ { x with Ma:=l,ak:=a,aq:=c } :: q.ai.drop (n+1):=by rw [RJ,if_pos hn]
 have hk: ∀ (z:aM) (A B:List aM),(A ++ z :: B).filterMap aU.bt=A.filterMap aU.bt ++ ((aU.bt z).toList ++ B.filterMap aU.bt):=fun z A B=>by
  rw [LW,LH];cases aU.bt z <;> simp
 have h6:q.ai.filterMap aU.bt=(q.ai.take n).filterMap aU.bt ++ ((aU.bt x).toList ++ (q.ai.drop (n+1)).filterMap aU.bt):=(congrArg (List.filterMap aU.bt) (kL hx)).trans (hk _ _ _);obtain ⟨P1,uZ⟩: ∃ P1,P1=blk q.aN ++ (q.L8.filterMap aR.bt ++ (blk q.bc ++ (blk q.ay ++ (blk q.ax ++ (blk q.am ++ (q.ae.filterMap aC.bt ++ blk q.aK)))))) ++ (q.ai.take n).filterMap aU.bt:=⟨_,rfl⟩
 obtain ⟨P2,IQ⟩: ∃ P2,P2=(q.ai.drop (n+1)).filterMap aU.bt:=⟨_,rfl⟩
 have e1:q.Mc=P1 ++ ((aU.bt x).toList ++ P2):=by rw [uZ,IQ]; simp only [af.Mc,h6,Lm]
 have e2:({ q with ai:=q.ai.set n { x with Ma:=l,ak:=a,aq:=c } } :af).Mc=P1 ++ ((a.map (·.block)).toList ++ P2):=by
  rw [uZ,IQ];simp only [af.Mc,hset,hk,Lm];rfl
 have hkx: ∀ g,g∈blk x.ak↔g∈(aU.bt x).toList:=fun g=>Iff.rfl
 have Dl:=h.nodup;rw [e1] at Dl;have hP: ∀ g,g∈P1\/g∈P2->g∉blk x.ak:=fun g hg hm=>by
  exact ZaH
 have hin: ∀ g,g∈P1\/g∈P2->g∈q.Mc:=fun g hg=>by
  rw [e1];rcases hg with hg | hg
  .exact Lz _ hg
  .exact Ly _ (Ly _ hg)
 have hgl:gs∈blk q.aK:=by rw [ha]; simp [blk]
 have hgP:gs∈P1:=by rw [uZ]; simp [hgl]
 have hsW: ∀ g,g∈P1\/g∈P2->W.heap[g]? =w.heap[g]? :=fun g hg=>hb.same g (h.lt g (hin g hg)).2 (hP g hg)
 have hrow:=aL h.ai fun g hg=>hsW g (.inl ZcH)
 obtain ⟨h1,h2,h3⟩:=rn (K:=bX) (y:= { x with Ma:=l,ak:=a,aq:=c }) (v:=s_ a l.length c) hrow hx ha (show 4 < 5 by decide) rfl;refine ⟨?_,h3⟩;have hnd:({ q with ai:=q.ai.set n { x with Ma:=l,ak:=a,aq:=c } } :af).Mc.Nodup:=by
  exact Zab
 have hs: ∀ g,g≠gs->(W.setCell ⟨gs,n * 5+4,n_⟩ (s_ a l.length c)).heap[g]? =W.heap[g]? :=fun g hg=>aH hg
 have hsp:q.Mc=(blk q.aN ++ (q.L8.filterMap aR.bt ++ (blk q.bc ++ (blk q.ay ++ (blk q.ax ++ (blk q.am ++ q.ae.filterMap aC.bt)))))) ++ (blk q.aK ++ (q.ai.filterMap aU.bt)):=by simp [af.Mc,Lm]
 have nw: ∀ g,(g∈(blk q.aN ++ (q.L8.filterMap aR.bt ++ (blk q.bc ++ (blk q.ay ++ (blk q.ax ++ (blk q.am ++ q.ae.filterMap aC.bt))))))\/g∈(q.ai.filterMap aU.bt))->g≠gs:=fun g hg he=>by
  exact Zax
 have hall: ∀ g,g∈P1\/g∈P2->g≠gs->(W.setCell ⟨gs,n * 5+4,n_⟩ (s_ a l.length c)).heap[g]? =w.heap[g]? :=fun g hg hne=>(hs g hne).trans (hsW g hg)
 refine ⟨⟨aL h.L8 fun g hg=>hall g (.inl ZcH) (nw g (.inl ZcW)),aL h.aj fun g hg=>hall g (.inl ZcH) (nw g (.inl ZcW)),aL h.L9 fun g hg=>hall g (.inl ZcH) (nw g (.inl ZcW)),aL h.ag fun g hg=>hall g (.inl ZcH) (nw g (.inl ZcW)),aL h.ae fun g hg=>hall g (.inl ZcH) (nw g (.inl ZcW)),ZcT,fun z hz=>(h.eI z hz).same fun g hg=>hall g (.inl Zda) (nw g (.inl Zdr)),?_,?_,hnd⟩,⟨hb.os,hb.tape,hb.output,by rw [ja]; exact hb.size,fun g hg hm=>(hs g fun e=>hm (e ▸ hin gs (.inl hgP))).trans (hb.same g hg fun hx=>hm Zdm)⟩,fun g hg=> ?_⟩
 .intro z hz
  exact (h.eE z hz).same fun g hg=>hall g (.inl (by rw [uZ]; simp only [Kg]; exact .inl (.inr (.inr (.inr (.inr (.inr (.inr (.inl (dP.2 ⟨z,hz,hg⟩)))))))))) (nw g (.inl (by simp only [Kg]; exact .inr (.inr (.inr (.inr (.inr (.inr (dP.2 ⟨z,hz,hg⟩)))))))))
 .intro z hz
  rw [hset] at hz;rcases Kg.1 hz with hz | hz
  .exact (h.eR z (RK hz)).same fun g hg=>hall g (.inl (by rw [uZ]; exact Ly _ (dP.2 ⟨z,hz,hg⟩))) (nw g (.inr (by exact dP.2 ⟨z,RK hz,hg⟩)))
  .rcases Kt.1 hz with rfl | hz
   .exact Zai
   .exact (h.eR z (RL hz)).same fun g hg=>hall g (.inr (by rw [IQ]; exact dP.2 ⟨z,hz,hg⟩)) (nw g (.inr (by exact dP.2 ⟨z,RL hz,hg⟩)))
 .exact Zah
end
end
section
def nX {p:aE} {x:ci} (h:p.Small) (hr:bK p=true) (hx:(Lit.int j_ x.id).wf=true/\x.Ma.length<=1048576/\ ∀ s∈x.Ma,s.size<=1048576):aE.Small { p with ae:=bY (·.id) x p.ae } :=by
 have h2:=((ch _).1 hr).cb;exact ⟨h.dl,h.fx,h.cD,h.cC,by show (bY (·.id) x p.ae).length<=_; rw [er]; omega,h.dH,h.L8,h.aj,h.L9,h.ag,fun y hy=>(fq.1 hy).elim (fun e=>e ▸ hx) (h.ae y),h.ai⟩
end
section
open Go.Maps
attribute [local go_sem ↓] Kc Kd
def fi (p q:af) (w:w_) (hp:p.Fit/\(∀ x∈p.L8,x.dX)/\af.At w p) (hq:bK p.pure=true->q.Fit/\(∀ x∈q.L8,x.dX)/\af.At w q):
  k_ J3 115 #[a_ p.cells,a_ q.cells] w fun e w'=>B_ w.heap.size w w'/\(((bK p.pure && bK q.pure)=true/\e=r_ (u_ #[a_ q.cells,b_ true]))\/((bK p.pure && bK q.pure)=false/\e=r_ (u_ #[a_ ar,b_ false]))):=by
 have HB:bN (B_ w.heap.size w (((w.alloc (c_ p.row 31)).alloc (c_ q.row 31)).alloc (c_ ar 31))/\av (((w.alloc (c_ p.row 31)).alloc (c_ q.row 31)).alloc (c_ ar 31)) w.heap.size p/\av (((w.alloc (c_ p.row 31)).alloc (c_ q.row 31)).alloc (c_ ar 31)) (w.heap.size+1) q/\(((w.alloc (c_ p.row 31)).alloc (c_ q.row 31)).alloc (c_ ar 31)).heap[w.heap.size+2]? =o_ (c_ ar 31)):=by
  refine ⟨(((Kp _ _).alloc (Ki _) _).alloc zw _).alloc Zcr _,?_,?_,?_⟩
  .exact (PU Zcr).trans ((PU zw).trans (Kj _ _))
  .exact (PU zw).trans (by simpa using Kj (w.alloc (c_ p.row 31)) _)
  .simpa using Kj ((w.alloc (c_ p.row 31)).alloc (c_ q.row 31)) _
 have HP:bN (p.Fit/\(∀ x∈p.L8,x.dX)/\af.At w p):=hp;have HQ:bN (bK p.pure=true->q.Fit/\(∀ x∈q.L8,x.dX)/\af.At w q):=hq;clear hp hq;obtain ⟨m0,m1,m2,m3,m4,m5,m6,m7⟩:=HB.I.2.1.cells;obtain ⟨k0,k1,k2,k3,k4,k5,k6,k7⟩:=HB.I.2.2.1.cells;unfold af.cells
 go_enter func115,ntmps115
 go_wp2_with fail;generalize ((w.alloc (c_ p.row 31)).alloc (c_ q.row 31)).alloc (c_ ar 31)=W at *;clear m0 m1 m2 m3 m4 m5 m6 m7 k0 k1 k2 k3 k4 k5 k6 k7;refine (eV p W HP.I.1 HP.I.2.1 (HP.I.2.2.below HB.I.1)).mono ?_;rintro e W1 ⟨rfl,hb⟩;replace HB:bN (B_ w.heap.size w W1/\av W1 w.heap.size p/\av W1 (w.heap.size+1) q/\W1.heap[w.heap.size+2]? =o_ (c_ ar 31)):=⟨HB.I.1.trans (hb.mono HB.I.1.size),HB.I.2.1.below hb,HB.I.2.2.1.below hb,(hb.block _ (J2.1 HB.I.2.2.2).1).trans HB.I.2.2.2⟩
 clear hb;obtain ⟨k0,k1,k2,k3,k4,k5,k6,k7⟩:=HB.I.2.2.1.cells;cases h4:bK p.pure
 .have H4:bN (bK p.pure=false):=h4
  clear h4;go_wp2_with (refine ec _ _ ar HB.I.2.2.2 ?_);refine mG results115 (b_ false) HB.I.2.2.2 ?_;exact ⟨q_ HB.I.1 zo _,.inr ⟨by rw [H4.I]; rfl,rfl⟩⟩
 have H4:bN (bK p.pure=true):=h4;clear h4;go_wp2_with fail;clear k0 k1 k2 k3 k4 k5 k6 k7;refine (eV q W1 (HQ.I H4.I).1 (HQ.I H4.I).2.1 ((HQ.I H4.I).2.2.below HB.I.1)).mono ?_;rintro e W2 ⟨rfl,hb⟩;replace HB:bN (B_ w.heap.size w W2/\av W2 w.heap.size p/\av W2 (w.heap.size+1) q/\W2.heap[w.heap.size+2]? =o_ (c_ ar 31)):=⟨HB.I.1.trans (hb.mono HB.I.1.size),HB.I.2.1.below hb,HB.I.2.2.1.below hb,(hb.block _ (J2.1 HB.I.2.2.2).1).trans HB.I.2.2.2⟩
 clear hb;obtain ⟨k0,k1,k2,k3,k4,k5,k6,k7⟩:=HB.I.2.2.1.cells;cases h5:bK q.pure
 .have H5:bN (bK q.pure=false):=h5
  clear h5;go_wp2_with (refine ec _ _ ar HB.I.2.2.2 ?_);refine mG results115 (b_ false) HB.I.2.2.2 ?_;exact ⟨q_ HB.I.1 zo _,.inr ⟨by rw [H4.I,H5.I]; rfl,rfl⟩⟩
 have H5:bN (bK q.pure=true):=h5;clear h5;go_wp2_with (refine ec _ _ q.row HB.I.2.2.2 ?_);refine mG results115 (b_ true) HB.I.2.2.2 ?_;exact ⟨q_ HB.I.1 zo _,.inl ⟨by rw [H4.I,H5.I]; rfl,rfl⟩⟩
def ac8 {w:w_} {bj g n cap off:Nat} {e:T_} {xs vs:List v_} (h:w.ownsRow bj e 1 (s_ (o_ ⟨g,0,n_⟩) n cap) n xs) (ho:n<=off):(bn w g off vs).ownsRow bj e 1 (s_ (o_ ⟨g,0,n_⟩) n cap) n xs:=by
 refine ⟨h.1,?_⟩;rcases h.2 with ⟨h1,-⟩ | ⟨g',cap',cur,h1,h2,h3,h4,h5,h6,h7⟩
 .cases h1
 .simp only [LD,LF,aeS,and_true,true_and] at h1
  obtain ⟨rfl,rfl⟩:=h1;refine .inr ⟨g,cap,iD cur off vs,rfl,h2,jc vs h3,h4,h5,by rw [kM]; exact h6,?_⟩;rw [<- h7];apply List.ext_getElem?;intro j;rw [QW,QW]
  split
  .rw [QJ,QJ,lL _ _ _ _ zo]
  .rfl
def acR {w:w_} {bj g n cap:Nat} {e:T_} {xs:List v_} (h:w.ownsRow bj e 1 (s_ (o_ ⟨g,0,n_⟩) n cap) n xs) {j:Nat} (hj:j < cap):(w.cell? ⟨g,j,n_⟩).isSome=true/\w.frozen? ⟨g,j,n_⟩=false:=by
 rcases h.2 with ⟨h1,-⟩ | ⟨g',cap',cur,h1,h2,h3,h4,h5,h6,h7⟩
 .cases h1
 .simp only [LD,LF,aeS,and_true,true_and] at h1
  obtain ⟨rfl,rfl⟩:=h1
  have:j < cur.size:=zo
  simp [World.cell?,World.frozen?,h3,this]
def adk {w:w_} {bj g n cap:Nat} {e:T_} {xs:List v_} (h:w.ownsRow bj e 1 (s_ (o_ ⟨g,0,n_⟩) n cap) n xs):w.ownsRow bj e 1 (s_ (o_ ⟨g,0,n_⟩) 0 cap) 0 [] :=by
 rcases h.2 with ⟨h1,-⟩ | ⟨g',cap',cur,h1,h2,h3,h4,h5,h6,h7⟩
 .cases h1
 .simp only [LD,LF,aeS,and_true,true_and] at h1
  obtain ⟨rfl,rfl⟩:=h1;exact ⟨rfl,.inr ⟨g,cap,cur,rfl,h2,h3,Ky _,h5,h6,by simp⟩⟩
def acW (a:Option d_) (n cap:Nat) (w:w_) (hn:n<=cap) (hc:cap<=maxLen) (hz:a=n_->n=0/\cap=0):
  k_ J3 189 #[s_ a n cap,i_ j_ 0,i_ j_ 0] w fun e w'=>e=r_ (s_ a n cap)/\w'=w:=by
 unfold maxLen at hc;cases a with
 | none=>
  obtain ⟨rfl,rfl⟩:=hz rfl;clear hz hn hc
  go_enter func189,ntmps189
  go_wp2;go_ret;exact ⟨rfl,rfl⟩
 | some ad=>
  clear hz;have h1:(n:Int)<=(cap:Int):=zo
  have h2:(0:Int)<=(n:Int):=zo
  go_enter func189,ntmps189
  go_wp2;go_ret;exact ⟨rfl,rfl⟩
def ac7 (g cap N bj:Nat) (l:List ByteArray) (w:w_) (h0:0 < N) (hN:N<=l.length) (hl:l.length<=1000) (ho:w.ownsRow bj 9 1 (s_ (o_ ⟨g,0,n_⟩) l.length cap) l.length (bT.flat l)):
  k_ J3 189 #[s_ (o_ ⟨g,0,n_⟩) l.length cap,i_ j_ 0,i_ j_ N] w fun e w'=>e=r_ (s_ (o_ ⟨g,0,n_⟩) (l.length - N) cap)/\w'.ownsRow bj 9 1 (s_ (o_ ⟨g,0,n_⟩) (l.length - N) cap) (l.length - N) (bT.flat (l.drop N))/\aI w w' [g] :=by
 have hcap:l.length<=cap/\cap<=maxLen:=by
  rcases ho.2 with ⟨h1,-⟩ | ⟨g',cap',cur,h1,h2,h3,h4,h5,h6,h7⟩
  .cases h1
  .simp only [LD,LF,aeS,and_true,true_and] at h1
   obtain ⟨rfl,rfl⟩:=h1;exact ⟨h4,h5⟩
 obtain ⟨A,hA,hsrc⟩: ∃ A:d_,(if cap=N then o_ (⟨g,0,n_⟩:d_) else o_ ⟨g,N,n_⟩)=o_ A/\ ∀ j u,(bT.flat (l.drop N))[j]? =o_ u->w.drew.cell? (A.add j)=o_ u:=by
  have h1:=qK (K:=bT) (k:=N) (c:=cap) hcap.1 (nP ho);have e:(if cap=N then o_ (⟨g,0,n_⟩:d_) else Option.map (fun x:d_=>x.add (N * bT.n)) (o_ (⟨g,0,n_⟩:d_)))=(if cap=N then o_ (⟨g,0,n_⟩:d_) else o_ ⟨g,N,n_⟩):=by
   split
   .rfl
   .show o_ ((⟨g,0,n_⟩:d_).add (N * 1))=_
    rw [qZ,Nat.mul_one]
  rw [e] at h1;refine ⟨if cap=N then ⟨g,0,n_⟩ else ⟨g,N,n_⟩,by split <;> rfl,fun j u hu=> ?_⟩;obtain ⟨ad,h2,h3⟩:=h1 j u hu;have h4:(if cap=N then (⟨g,0,n_⟩:d_) else ⟨g,N,n_⟩)=ad:=by
   split at h2 <;> rename_i hh
   .rw [if_pos hh]; exact KC h2
   .rw [if_neg hh]; exact KC h2
  rw [h4];exact h3
 obtain ⟨i,hi,e⟩:=Kw.1 zD;simp only [Kx] at e;have hld:(l.drop N).length=l.length - N:=Ql;obtain ⟨w1,hr1,ho1,CT⟩:=run_append_fits (P:=J3) w.drew bj 94 94 9 i 1 underlying94 hi e.2.1 g 0 cap [] (aL (adk ho) fun _ _=>rfl) A (l.length - N) (cap - N) (bT.flat (l.drop N)) (by rw [bT.dM,hld]; rfl) hsrc yK zo;simp only [Li,Ll] at hr1 ho1;have hcl: ∀ ty,(Builtin.clear_ #[94] ty #[s_ (o_ ⟨g,l.length - N,n_⟩) (l.length - (l.length - N)) (cap - (l.length - N))]).run J3 w1= .ok (u_ #[]) (w1.setCells g (l.length - N) (List.replicate (l.length - (l.length - N)) (t_ ⟨#[]⟩))):=fun ty=>
  Lib.run_clear_slice w1 _ _ ty _ underlying94 Tryz.zeroValue9 rfl rfl g (l.length - N) _ _ zo (fun j hj=>(acR ho1 zo).1) (fun j hj=>(acR ho1 zo).2)
 have HE:bN ((w1.setCells g (l.length - N) (List.replicate (l.length - (l.length - N)) (t_ ⟨#[]⟩))).ownsRow bj 9 1 (s_ (o_ ⟨g,0,n_⟩) (l.length - N) cap) (l.length - N) (bT.flat (l.drop N))/\aI w (w1.setCells g (l.length - N) (List.replicate (l.length - (l.length - N)) (t_ ⟨#[]⟩))) [g]):=by
  rw [iL];refine ⟨ac8 ho1 (Ki _),?_⟩;have h5:aI w w1 [g] :=⟨CT.os,CT.tape,CT.output,CT.size,fun k hk hn=>CT.block k hk fun ee=>hn (by simp at ee; simp [ee])⟩
  exact h5.trans (aI.set _ zw)
 have HR:=aA hr1;have n1:(N:Int)<=(l.length:Int):=zo
 have n2:(l.length:Int)<=(cap:Int):=zo
 have n3:(N:Int)<=(cap:Int):=zo
 have n4: ¬ (0:Int)=(N:Int):=zo
 have n5:(0:Int)<=(N:Int):=zo
 have n6:N<=cap:=zo
 have n7:l.length<=cap:=hcap.1;have n8:(cap:Int)<=9223372036854775807:=by have:=hcap.2; unfold maxLen at this; omega
 have n9: ¬ 0=N:=zo
 clear hsrc ho1 CT ho hr1 e hi hcap hld
 go_enter func189,ntmps189
 go_upto_region 5 with fail;refine Kr (S:=fun _=>True) Zcq trivial (fun _=> ?_);refine tt 0 trivial ?_;refine tt 1 trivial ?_;refine tt 2 trivial ?_;refine tt 3 trivial ?_;refine tt 4 trivial ?_;refine tt 5 trivial ?_
 try simp only [pt,sb,s0,s1]
 refine L7 6 (fun Q hQ=> ?_);refine cM _ _ 94 rfl _ _ _ w1 rfl rfl HR.I ?_;refine hQ.out _ _ trivial (fun _=> ?_);clear hQ Q HR
 try simp only [pt,sb,s0,s1]
 refine tt 7 trivial ?_;refine K3 Zcq ?_ _;have n10:((l.length - N:Nat):Int)<=(l.length:Int):=zo
 have n11:(0:Int)<=((l.length - N:Nat):Int):=zo
 have n12: ¬ cap=l.length - N:=zo
 go_wp2;go_ret;exact ⟨rfl,HE.I⟩
def adJ (a:Option d_) (cap N bj:Nat) (l:List ByteArray) (w:w_) (hN:N<=l.length) (hl:l.length<=1000) (ho:w.ownsRow bj 9 1 (s_ a l.length cap) l.length (bT.flat l)):
  k_ J3 189 #[s_ a l.length cap,i_ j_ 0,i_ j_ N] w fun e w'=>e=r_ (s_ a (l.length - N) cap)/\w'.ownsRow bj 9 1 (s_ a (l.length - N) cap) (l.length - N) (bT.flat (l.drop N))/\aI w w' (blk a):=by
 by_cases h0:N=0
 .subst h0
  have hc:l.length<=cap/\cap<=maxLen/\(a=n_->l.length=0/\cap=0):=by
   rcases ho.2 with ⟨h1,h2⟩ | ⟨g',cap',cur,h1,h2,h3,h4,h5,h6,h7⟩
   .simp only [LD] at h1
    exact ⟨zo,by rw [h1.2.2]; exact Ky _,fun _=>⟨h2,h1.2.2⟩⟩
   .simp only [LD] at h1
    rw [h1.2.2];exact ⟨h4,h5,fun e=>by rw [e] at h1; cases h1.1⟩
  refine (acW a l.length cap w hc.1 hc.2.1 hc.2.2).mono ?_;rintro e w' ⟨rfl,rfl⟩;exact ⟨by rw [Nat.sub_zero],by rw [Nat.sub_zero,List.drop_zero]; exact ho,aI.refl _ _⟩
 .rcases ho.2 with ⟨h1,h2⟩ | ⟨g',cap',cur,h1,h2,h3,h4,h5,h6,h7⟩
  .omega
  .simp only [LD] at h1
   obtain ⟨rfl,-,rfl⟩:=h1;exact (ac7 g' cap N bj l w zo hN hl ho).mono fun e w' h=>⟨h.1,h.2.1,h.2.2.mono fun b hb=>by simpa [blk] using hb⟩
end
section
open Go.Maps
section
variable {α:Type} {num:α->Int}
def rF {β:Type} {je:β->Int} (f:α->β) (hf: ∀ y,je (f y)=num y) (x:α): ∀ l:List α,(bY num x l).map f=bY je (f x) (l.map f)
 | [] =>rfl
 | y :: r=>by
  simp only [bY,Lt,hf]
  split
  .simp
  .simp [rF f hf x r]
def AL {x:α} : ∀ {l:List α},(∀ y∈l,¬ num x < num y)->bY num x l=l ++ [x]
 | [],_=>rfl
 | y :: r,h=>by
  simp only [bY,if_neg (h y zw),Qw];rw [AL fun z hz=>h z (by simp [hz])]
def xv {x:α} : ∀ {l r:List α},(∃ y∈l,num x < num y)->bY num x (l ++ r)=bY num x l ++ r
 | [],_,h=>by obtain ⟨y,hy,_⟩:=h; cases hy
 | y :: l,r,h=>by
  simp only [Qw,bY]
  split
  .rfl
  .rename_i hn
   rw [xv,Qw];obtain ⟨z,hz,hlt⟩:=h;rcases Kt.1 hz with rfl | hz
   .exact absurd hlt hn
   .exact ⟨z,hz,hlt⟩
def Cp {x y:α} {l:List α} (h: ∀ z∈l,¬ num x < num z) (hy:num x < num y):bY num x (l ++ [y])=l ++ [x] ++ [y] :=by
 induction l with
 | nil=>simp [bY,hy]
 | cons z r ih=>
  simp only [Qw,bY,if_neg (h z zw)];rw [ih fun u hu=>h u (by simp [hu])]
def pz (x:α): ∀ l:List α,(bY num x l).Perm (x :: l)
 | [] =>RA _
 | y :: r=>by
  simp only [bY]
  split
  .exact RA _
  .exact (List.Perm.cons y (pz x r)).trans (List.Perm.swap x y r)
def gY (num:α->Int) (x:α) (l:List α) (k:Nat) (dn:Bool) (acc:List α):Prop:=
 (dn=false/\acc=l.take k/\ ∀ y∈l.take k,¬ num x < num y)\/(dn=true/\acc=bY num x (l.take k)/\ ∃ y∈l.take k,num x < num y)
def gY.start (x:α) (l:List α):gY num x l 0 false [] := .inl ⟨rfl,by simp,fun y hy=>by simp at hy⟩
def gY.on {x y:α} {l:List α} {k:Nat} {acc:List α} (h:gY num x l k true acc) (hy:l[k]? =o_ y):gY num x l (k+1) true (acc ++ [y]):=by
 rcases h with ⟨h,-⟩ | ⟨-,rfl,z,hz,hlt⟩
 .cases h
 .rw [gY,cj hy]
  exact .inr ⟨rfl,(xv ⟨z,hz,hlt⟩).symm,z,Lz _ hz,hlt⟩
def gY.past {x y:α} {l:List α} {k:Nat} {acc:List α} (h:gY num x l k false acc) (hy:l[k]? =o_ y) (hn: ¬ num x < num y):gY num x l (k+1) false (acc ++ [y]):=by
 rcases h with ⟨-,rfl,h⟩ | ⟨h,-⟩
 .rw [gY,cj hy]
  refine .inl ⟨rfl,rfl,fun z hz=> ?_⟩;rcases Kg.1 hz with hz | hz
  .exact h z hz
  .rw [KB.1 hz]; exact hn
 .cases h
def gY.here {x y:α} {l:List α} {k:Nat} {acc:List α} (h:gY num x l k false acc) (hy:l[k]? =o_ y) (hn:num x < num y):gY num x l (k+1) true (acc ++ [x] ++ [y]):=by
 rcases h with ⟨-,rfl,h⟩ | ⟨h,-⟩
 .rw [gY,cj hy]
  exact .inr ⟨rfl,(Cp h hn).symm,y,by simp,hn⟩
 .cases h
def gY.done {x:α} {l:List α} {k:Nat} {acc:List α} (h:gY num x l k true acc) (hk: ¬ k < l.length):acc=bY num x l:=by
 rcases h with ⟨h,-⟩ | ⟨-,rfl,-⟩
 .cases h
 .rw [KF zo]
def gY.last {x:α} {l:List α} {k:Nat} {acc:List α} (h:gY num x l k false acc) (hk: ¬ k < l.length):acc ++ [x] =bY num x l:=by
 rcases h with ⟨-,rfl,h⟩ | ⟨h,-⟩
 .rw [KF zo] at h ⊢
  exact (AL h).symm
 .cases h
def gY.le {x:α} {l:List α} {k:Nat} {dn:Bool} {acc:List α} (h:gY num x l k dn acc):acc.length<=l.length+1:=by
 rcases h with ⟨-,rfl,-⟩ | ⟨-,rfl,-⟩
 .rw [Lk]; omega
 .rw [er,Lk]; omega
end
structure fy {α:Type} (K:Kind α) (T:T_) (t8:Array v_) (W w:w_) (acc:List α) (a:Option d_) (c:Nat):Prop where
 own:w.ownsRow W.heap.size T K.n (s_ a acc.length c) acc.length (K.flat acc)
 ne: ∀ g∈blk a,g≠W.heap.size+1
 cd:B_ W.heap.size W w
 box:w.heap[W.heap.size+1]? =o_ (c_ t8 T)
def fy.start {α:Type} {K:Kind α} {T:T_} {t8:Array v_} {W:w_} :fy K T t8 W ((W.alloc (c_ #[] T)).alloc (c_ t8 T)) [] (o_ ⟨W.heap.size,0,n_⟩) 0:=by
 have b1:B_ W.heap.size W (W.alloc (c_ #[] T)):=(Kp _ _).alloc (Ki _) _;refine ⟨i6 ((PU zw).trans (Kj _ _)) (Ki _),fun g hg=>by simp [blk] at hg; omega,b1.alloc b1.size _,Kq _ _ _⟩
def fy.add {α:Type} {K:Kind α} {T:T_} {t8:Array v_} {W w:w_} {acc:List α} {a:Option d_} {c:Nat} (h:fy K T t8 W w acc a c) (t:T_) (bytes:Nat) {z0:v_} {P:Program} (ht:P.underlying t=o_ (.slice T))
  (hi:(P.info? T).map (fun i=>(i.zero,i.size,i.bytes))=o_ (o_ z0,K.n,bytes)) (hz:z0.cells.size=K.n) (hn:0 < K.n) (hby:bytes<=1000) (z:α) (zs:Array v_) (hzs:zs.toList=K.vals z) (h1: ∀ u∈K.vals z,u.oneCell'=true) (hl:acc.length<=2000000):
  ∃ a' c' w',(Builtin.append_ #[t,t] t #[s_ a acc.length c,s_ (o_ ⟨w.heap.size,0,n_⟩) 1 1]).run P (w.alloc (c_ zs T))= .ok (s_ a' (acc.length+1) c') w'/\fy K T t8 W w' (acc ++ [z]) a' c':=by
 obtain ⟨i,hi,e⟩:=Kw.1 hi;simp only [Kx] at e;have b1:B_ w.heap.size w (w.alloc (c_ zs T)):=(Kp _ _).alloc (Ki _) _;have b2:=h.cd.trans (b1.mono h.cd.size);have hlt:=(J2.1 h.box).1;obtain ⟨a',c',w',hr,ho,hg,hq⟩:=jD (P:=P) (w.alloc (c_ zs T)) W.heap.size t t T i z0 K.n bytes ht hi e.1 e.2.1 e.2.2 hz hn a acc.length c _ (cR h.own b1) (o_ ⟨w.heap.size,0,n_⟩) 1 1 (K.vals z) (by rw [<- hzs]; exact jO (Kj _ _)) (by rw [K.len,Nat.one_mul]) h1 zo hby b2.size;refine ⟨a',c',w',hr,⟨?_,fun g hg2=> ?_,b2.grown hg b2.size fun k e=>(cf h.own (di e)).1,?_⟩⟩
 .exact Za8
 .rcases hq g hg2 with h5 | h5
  .exact h.ne g h5
  .rw [h5]; have:=b1.size; omega
 .refine (hg.block _ Zcr (fun e=> ?_)).trans ((b1.block _ hlt).trans h.box)
  exact h.ne _ (di e.symm) rfl
def oS {Z A A' C C' R:List Nat} (h:(Z ++ (A ++ (C ++ R))).Nodup) (hA:A'.Nodup) (hC:C'.Nodup) (h1: ∀ g∈A',g∉Z ++ (A ++ (C ++ R))/\g∉C') (h2: ∀ g∈C',g∈C\/g∉Z ++ (A ++ (C ++ R))):(Z ++ (A' ++ (C' ++ R))).Nodup:=by
 simp only [Kg,not_or] at h1 h2;simp only [Kf,Kg] at h ⊢;obtain ⟨hz,⟨-,⟨-,hR,hCR⟩,-⟩,hzz⟩:=h;refine ⟨hz,⟨hA,⟨hC,hR,fun a ha b hb e=> ?_⟩,fun a ha b hb e=> ?_⟩,fun a ha b hb e=> ?_⟩
 .rcases h2 a ha with h5 | h5
  .exact hCR a h5 b hb e
  .exact h5.2.2.2 (e ▸ hb)
 .rcases hb with hb | hb
  .exact (h1 a ha).2 (e ▸ hb)
  .exact (h1 a ha).1.2.2.2 (e ▸ hb)
 .rcases hb with hb | hb | hb
  .exact (h1 b hb).1.1 (e ▸ ha)
  .rcases h2 b hb with h5 | h5
   .exact hzz a ha b (.inr (.inl h5)) e
   .exact h5.1 (e ▸ ha)
  .exact hzz a ha b (.inr (.inr hb)) e
def rB {x:ao} : ∀ u∈bg.vals x,u.oneCell'=true:=fun u hu=>by
 simp only [bg,qN,Kt,Ku,or_false] at hu;rcases hu with rfl | rfl | rfl | rfl | rfl | rfl | rfl | rfl | rfl | rfl | rfl | rfl <;> rfl
def ap.IX {w w':w_} {bj B:Nat} {q:af} {l:List ao} {a':Option d_} {c':Nat} (h:ap w bj q) (hb:bj<=B) (hB: ∀ g∈q.Mc,g < B) (hs: ∀ g∈q.Mc,w'.heap[g]? =w.heap[g]?)
  (ho:w'.ownsRow B 41 12 (s_ a' l.length c') l.length (bg.flat l)) (hm: ∀ x∈l,aR.cO w' bj x) (hn:(l.filterMap aR.bt).Nodup) (hk: ∀ g∈l.filterMap aR.bt,g∈q.L8.filterMap aR.bt\/g∉q.Mc) (hk2: ∀ g∈l.filterMap aR.bt,g < B):ap w' bj ({ q with L8:=l,aN:=a',aW:=c' } :af):=by
 refine ⟨cq ho hb,aL h.aj fun g hg=>hs g Zct,aL h.L9 fun g hg=>hs g Zct,aL h.ag fun g hg=>hs g Zct,aL h.ae fun g hg=>hs g Zct,aL h.ai fun g hg=>hs g Zct,hm,fun x hx=>(h.eE x hx).same fun g hg=>hs g ?_,fun x hx=>(h.eR x hx).same fun g hg=>hs g ?_,?_⟩
 .exact Q2
 .exact K_
 .have h5:=h.nodup
  have h6: ∀ g∈blk a',g∉q.Mc/\g∉l.filterMap aR.bt:=fun g hg=>⟨fun hm=>by have:=(cf ho hg).1; have:=hB g hm; omega,fun hm=>by have:=(cf ho hg).1; have:=hk2 g hm; omega⟩
  have e1:({ q with L8:=l,aN:=a',aW:=c' } :af).Mc=([] :List Nat) ++ (blk a' ++ (l.filterMap aR.bt ++ (blk q.bc ++ (blk q.ay ++ (blk q.ax ++ (blk q.am ++ (q.ae.filterMap aC.bt ++ (blk q.aK ++ (q.ai.filterMap aU.bt))))))))):=by simp [af.Mc]
  have e3:q.Mc=([] :List Nat) ++ (blk q.aN ++ (q.L8.filterMap aR.bt ++ (blk q.bc ++ (blk q.ay ++ (blk q.ax ++ (blk q.am ++ (q.ae.filterMap aC.bt ++ (blk q.aK ++ (q.ai.filterMap aU.bt))))))))):=by simp [af.Mc]
  exact Zbz
def nz {x:au} : ∀ u∈bm.vals x,u.oneCell'=true:=fun u hu=>by
 simp only [bm,nD,Kt,Ku,or_false] at hu;rcases hu with rfl | rfl | rfl <;> rfl
def ap.Eu {w w':w_} {bj B:Nat} {q:af} {l:List au} {a':Option d_} {c':Nat} (h:ap w bj q) (hb:bj<=B) (hB: ∀ g∈q.Mc,g < B) (hs: ∀ g∈q.Mc,w'.heap[g]? =w.heap[g]?)
  (ho:w'.ownsRow B 96 3 (s_ a' l.length c') l.length (bm.flat l)) (hm: ∀ x∈l,aC.cO w' bj x) (hn:(l.filterMap aC.bt).Nodup) (hk: ∀ g∈l.filterMap aC.bt,g∈q.ae.filterMap aC.bt\/g∉q.Mc) (hk2: ∀ g∈l.filterMap aC.bt,g < B):ap w' bj ({ q with ae:=l,am:=a',aG:=c' } :af):=by
 refine ⟨aL h.L8 fun g hg=>hs g Zct,aL h.aj fun g hg=>hs g Zct,aL h.L9 fun g hg=>hs g Zct,aL h.ag fun g hg=>hs g Zct,cq ho hb,aL h.ai fun g hg=>hs g Zct,fun x hx=>(h.eI x hx).same fun g hg=>hs g ?_,hm,fun x hx=>(h.eR x hx).same fun g hg=>hs g ?_,?_⟩
 .exact Zar
 .exact K_
 .have h5:=h.nodup
  have h6: ∀ g∈blk a',g∉q.Mc/\g∉l.filterMap aC.bt:=fun g hg=>⟨fun hm=>by have:=(cf ho hg).1; have:=hB g hm; omega,fun hm=>by have:=(cf ho hg).1; have:=hk2 g hm; omega⟩
  have e1:({ q with ae:=l,am:=a',aG:=c' } :af).Mc=(blk q.aN ++ (q.L8.filterMap aR.bt ++ (blk q.bc ++ (blk q.ay ++ (blk q.ax))))) ++ (blk a' ++ (l.filterMap aC.bt ++ (blk q.aK ++ (q.ai.filterMap aU.bt)))):=by simp [af.Mc]
  have e3:q.Mc=(blk q.aN ++ (q.L8.filterMap aR.bt ++ (blk q.bc ++ (blk q.ay ++ (blk q.ax))))) ++ (blk q.am ++ (q.ae.filterMap aC.bt ++ (blk q.aK ++ (q.ai.filterMap aU.bt)))):=by simp [af.Mc]
  exact Zbz
def qX {x:aM} : ∀ u∈bX.vals x,u.oneCell'=true:=fun u hu=>by
 simp only [bX,qT,Kt,Ku,or_false] at hu;rcases hu with rfl | rfl | rfl | rfl | rfl <;> rfl
def ap.Jb {w w':w_} {bj B:Nat} {q:af} {l:List aM} {a':Option d_} {c':Nat} (h:ap w bj q) (hb:bj<=B) (hB: ∀ g∈q.Mc,g < B) (hs: ∀ g∈q.Mc,w'.heap[g]? =w.heap[g]?)
  (ho:w'.ownsRow B 115 5 (s_ a' l.length c') l.length (bX.flat l)) (hm: ∀ x∈l,aU.cO w' bj x) (hn:(l.filterMap aU.bt).Nodup) (hk: ∀ g∈l.filterMap aU.bt,g∈q.ai.filterMap aU.bt\/g∉q.Mc) (hk2: ∀ g∈l.filterMap aU.bt,g < B):ap w' bj ({ q with ai:=l,aK:=a',aV:=c' } :af):=by
 refine ⟨aL h.L8 fun g hg=>hs g Zct,aL h.aj fun g hg=>hs g Zct,aL h.L9 fun g hg=>hs g Zct,aL h.ag fun g hg=>hs g Zct,aL h.ae fun g hg=>hs g Zct,cq ho hb,fun x hx=>(h.eI x hx).same fun g hg=>hs g ?_,fun x hx=>(h.eE x hx).same fun g hg=>hs g ?_,hm,?_⟩
 .exact Zar
 .exact Q2
 .have h5:=h.nodup
  have h6: ∀ g∈blk a',g∉q.Mc/\g∉l.filterMap aU.bt:=fun g hg=>⟨fun hm=>by have:=(cf ho hg).1; have:=hB g hm; omega,fun hm=>by have:=(cf ho hg).1; have:=hk2 g hm; omega⟩
  have e1:({ q with ai:=l,aK:=a',aV:=c' } :af).Mc=(blk q.aN ++ (q.L8.filterMap aR.bt ++ (blk q.bc ++ (blk q.ay ++ (blk q.ax ++ (blk q.am ++ (q.ae.filterMap aC.bt))))))) ++ (blk a' ++ (l.filterMap aU.bt ++ ([] :List Nat))):=by simp [af.Mc]
  have e3:q.Mc=(blk q.aN ++ (q.L8.filterMap aR.bt ++ (blk q.bc ++ (blk q.ay ++ (blk q.ax ++ (blk q.am ++ (q.ae.filterMap aC.bt))))))) ++ (blk q.aK ++ (q.ai.filterMap aU.bt ++ ([] :List Nat))):=by simp [af.Mc]
  exact Zbz
def uI (w:w_) (bj:Nat) (a0:Option d_) (c0:Nat) (l0:List bD) (ho:w.ownsRow bj 89 3 (s_ a0 l0.length c0) l0.length (dm.flat l0)) (a:Option d_) (l:List bD) (cap:Nat) (h:ld w a (dm.flat l)) (hl:l0.length+l.length<=4000000) (lY:bj<=w.heap.size):
  ∃ a' cap' w',(Builtin.append_ #[25,25] 25 #[s_ a0 l0.length c0,s_ a l.length cap]).run J3 w= .ok (s_ a' (l0.length+l.length) cap') w'/\w'.ownsRow bj 89 3 (s_ a' (l0.length+l.length) cap') (l0.length+l.length) (dm.flat (l0 ++ l))/\w.grownBy w' (Value.slice a0 l0.length c0).ownBlock/\ ∀ g∈blk a',g∈blk a0\/g=w.heap.size:=by
 obtain ⟨i,hi,e⟩:=Kw.1 yS;simp only [Kx] at e;rw [dm.dc];exact jD w bj _ _ 89 i _ 3 24 underlying25 hi e.1 e.2.1 e.2.2 rfl (by decide) a0 l0.length c0 _ ho a l.length cap _ h (dm.dM l) Ec hl (by decide) lY
def ap.newSem {w w':w_} {bj B:Nat} {q:af} {l:List bD} {a':Option d_} {c':Nat} (h:ap w bj q) (hb:bj<=B) (hB: ∀ g∈q.Mc,g < B) (hs: ∀ g∈q.Mc,w'.heap[g]? =w.heap[g]?)
  (ho:w'.ownsRow B 89 3 (s_ a' l.length c') l.length (dm.flat l)):ap w' bj ({ q with aj:=l,bc:=a',bF:=c' } :af):=by
 refine ⟨aL h.L8 fun g hg=>hs g Zct,cq ho hb,aL h.L9 fun g hg=>hs g Zct,aL h.ag fun g hg=>hs g Zct,aL h.ae fun g hg=>hs g Zct,aL h.ai fun g hg=>hs g Zct,fun x hx=>(h.eI x hx).same fun g hg=>hs g ?_,fun x hx=>(h.eE x hx).same fun g hg=>hs g ?_,fun x hx=>(h.eR x hx).same fun g hg=>hs g ?_,?_⟩
 .exact Zar
 .exact Q2
 .exact K_
 .have h5:=h.nodup
  have h6: ∀ g∈blk a',g∉q.Mc:=fun g hg hm=>by have:=(cf ho hg).1; have:=hB g hm; omega
  have e1: ∀ (a2:Option d_) (l2:List bD) (c2:Nat),({ q with aj:=l2,bc:=a2,bF:=c2 } :af).Mc=(blk q.aN ++ q.L8.filterMap aR.bt) ++ (blk a2 ++ (blk q.ay ++ (blk q.ax ++ (blk q.am ++ (q.ae.filterMap aC.bt ++ (blk q.aK ++ q.ai.filterMap aU.bt)))))):=fun _ _ _=>by simp [af.Mc]
  have e2:=e1 q.bc q.aj q.bF;rw [e1];have e3:q.Mc=(blk q.aN ++ q.L8.filterMap aR.bt) ++ (blk q.bc ++ (blk q.ay ++ (blk q.ax ++ (blk q.am ++ (q.ae.filterMap aC.bt ++ (blk q.aK ++ q.ai.filterMap aU.bt)))))):=e2;rw [e3] at h5 h6;exact qv h5 (fN _) h6
end
section
def yN {p:aE} {x:bD} (h:p.Small) (hr:bK p=true) (hx:(Lit.int j_ x.id).wf=true):aE.Small { p with aj:=cA (·.id) x p.aj } :=by
 have h2:=((ch _).1 hr).fx;exact ⟨h.dl,by show (cA (·.id) x p.aj).length<=_; rw [eJ]; omega,h.cD,h.cC,h.cb,h.dH,h.L8,fun y hy=>(js.1 hy).elim (fun e=>e ▸ hx) (h.aj y),h.L9,h.ag,h.ae,h.ai⟩
end
section
open Go.Maps
attribute [local go_sem ↓] Kc Kd
def tF (p:af) (z:bD) (w:w_) (b0:Nat) (hwf:(Lit.int j_ z.id).wf=true) (qY:p.pure.Small) (h:ap w b0 p):
  k_ J3 73 #[a_ p.cells,a_ #[i_ j_ z.id,i_ j_ z.n,i_ j_ z.max]] w fun e w'=>gI w (cB p.pure { p.pure with aj:=cA (·.id) z p.pure.aj }) e w':=by
 have HB:bN (av (((w.alloc (c_ p.cells 31)).alloc (c_ #[i_ j_ z.id,i_ j_ z.n,i_ j_ z.max] 89)).alloc (c_ ar 31)) w.heap.size p/\ap (((w.alloc (c_ p.cells 31)).alloc (c_ #[i_ j_ z.id,i_ j_ z.n,i_ j_ z.max] 89)).alloc (c_ ar 31)) b0 p/\B_ w.heap.size w (((w.alloc (c_ p.cells 31)).alloc (c_ #[i_ j_ z.id,i_ j_ z.n,i_ j_ z.max] 89)).alloc (c_ ar 31))/\(((w.alloc (c_ p.cells 31)).alloc (c_ #[i_ j_ z.id,i_ j_ z.n,i_ j_ z.max] 89)).alloc (c_ ar 31)).heap[w.heap.size+1+1]? =o_ (c_ ar 31)):=by
  have b1:B_ w.heap.size w (((w.alloc (c_ p.cells 31)).alloc (c_ #[i_ j_ z.id,i_ j_ z.n,i_ j_ z.max] 89)).alloc (c_ ar 31)):=fg _ _ _ _;have h3:=dR w (c_ p.cells 31) (c_ #[i_ j_ z.id,i_ j_ z.n,i_ j_ z.max] 89) (c_ ar 31);exact ⟨h3.1,h.below b1,b1,h3.2.2.1⟩
 have Cj:bN ((((w.alloc (c_ p.cells 31)).alloc (c_ #[i_ j_ z.id,i_ j_ z.n,i_ j_ z.max] 89)).alloc (c_ ar 31)).heap[w.heap.size+1]? =o_ (c_ #[i_ j_ z.id,i_ j_ z.n,i_ j_ z.max] 89)):=(dR _ _ _ _).2.1;have fl:bN (p.Fit/\(∀ x∈p.L8,x.dX)/\p.pure.Small/\(Lit.int j_ z.id).wf=true):=⟨dV qY,fun x hx=>(cY qY hx).1,qY,hwf⟩
 have hpl:=fl.I.1.short.aj;have hcap:p.aj.length<=p.bF:=nV h.aj;have pd: ∀ g∈p.Mc,g < w.heap.size:=fun g hg=>(h.lt g hg).2
 clear h qY hwf;obtain ⟨m0,m1,m2,m3,m4,m5,m6,m7⟩:=HB.I.1.cells;unfold af.cells at *
 go_enter func73,ntmps73
 go_wp2_with fail;generalize ((w.alloc (c_ p.row 31)).alloc (c_ #[i_ j_ z.id,i_ j_ z.n,i_ j_ z.max] 89)).alloc (c_ ar 31)=W at *;clear m0 m1 m2 m3 m4 m5 m6 m7;refine (fR p W fl.I.1 fl.I.2.1 HB.I.2.1.at).mono ?_;rintro e W1 ⟨q,rfl,hown,gn,hb1⟩;have hb2:B_ W1.heap.size W1 (W1.alloc (c_ q.cells 31)):=(Kp _ _).alloc (Ki _) _;have hlt:w.heap.size+1+1 < W.heap.size:=(J2.1 HB.I.2.2.2).1;have hb3:B_ W.heap.size W (W1.alloc (c_ q.cells 31)):=hb1.trans (hb2.mono hb1.size);have hq1: ∀ g∈q.Mc,g < W1.heap.size:=fun g hg=>(hown.lt g hg).2
 have HQ:bN (av (W1.alloc (c_ q.cells 31)) W1.heap.size q/\ap (W1.alloc (c_ q.cells 31)) W.heap.size q/\q.pure=p.pure/\(∀ g∈q.Mc,g < W1.heap.size)/\W.heap.size<=W1.heap.size/\w.heap.size+1+1 < W.heap.size/\W1.heap.size < (W1.alloc (c_ q.cells 31)).heap.size):=⟨Kj _ _,hown.below hb2,gn,hq1,hb1.size,hlt,by simp⟩
 replace HB:bN (av (W1.alloc (c_ q.cells 31)) w.heap.size p/\ap (W1.alloc (c_ q.cells 31)) b0 p/\B_ w.heap.size w (W1.alloc (c_ q.cells 31))/\(W1.alloc (c_ q.cells 31)).heap[w.heap.size+1+1]? =o_ (c_ ar 31)):=⟨HB.I.1.below hb3,HB.I.2.1.below hb3,HB.I.2.2.1.trans (hb3.mono HB.I.2.2.1.size),(hb3.block _ hlt).trans HB.I.2.2.2⟩
 replace Cj:bN ((W1.alloc (c_ q.cells 31)).heap[w.heap.size+1]? =o_ (c_ #[i_ j_ z.id,i_ j_ z.n,i_ j_ z.max] 89)):=(hb3.block _ zo).trans Cj.I;have Au:bN (∀ g∈p.Mc,g < w.heap.size):=fun g hg=>pd g hg
 clear hown gn hb1 hb2 hb3 hq1 hlt pd;obtain ⟨m0,m1,m2,m3,m4,m5,m6,m7⟩:=HB.I.1.cells;unfold af.cells at *;go_wp2_with fail;generalize W1.alloc (c_ q.row 31)=W2 at *;clear m0 m1 m2 m4 m5 m6 m7;generalize W1.heap.size=o at *;clear m3
 go_loopw [7] (fun i wr=> ∃ k:Nat,k<=p.aj.length/\i=i_ j_ k/\bN (∀ y∈p.aj.take k,y.id < z.id)/\bN (B_ W2.heap.size W2 wr)) (fun i _=>p.aj.length - (Go.RowKit.intOf i).toNat)
 case atStart=>exact ⟨0,Ky _,rfl,fun y hy=>by simp at hy,Kp _ _⟩
 case round=>
  obtain ⟨k,hk,rfl,HA,Ez⟩:=hrel;have hbr:B_ W2.heap.size W2 wr.drew.drew:=Ez.I.drew.drew;have hsz:=hbr.size;replace Ez:bN (B_ W2.heap.size W2 wr.drew):=Ez.I.drew;have hq:=HQ.I;have hzl:w.heap.size+1 < W2.heap.size:=zo
  replace HB:bN (av wr.drew.drew w.heap.size p/\ap wr.drew.drew b0 p/\B_ w.heap.size w wr.drew.drew/\wr.drew.drew.heap[w.heap.size+1+1]? =o_ (c_ ar 31)):=⟨HB.I.1.below hbr,HB.I.2.1.below hbr,HB.I.2.2.1.trans (hbr.mono HB.I.2.2.1.size),(hbr.block _ zo).trans HB.I.2.2.2⟩
  replace HQ:bN (av wr.drew.drew o q/\ap wr.drew.drew W.heap.size q/\q.pure=p.pure/\(∀ g∈q.Mc,g < o)/\W.heap.size<=o/\w.heap.size+1+1 < W.heap.size/\o < wr.drew.drew.heap.size):=⟨hq.1.below hbr,hq.2.1.below hbr,hq.2.2.1,hq.2.2.2.1,hq.2.2.2.2.1,hq.2.2.2.2.2.1,zo⟩
  replace Cj:bN (wr.drew.drew.heap[w.heap.size+1]? =o_ (c_ #[i_ j_ z.id,i_ j_ z.n,i_ j_ z.max] 89)):=(hbr.block _ hzl).trans Cj.I;clear hbr hsz hq hzl;have m:wr.drew.cell? ⟨w.heap.size,3,n_⟩=o_ (s_ p.bc p.aj.length p.bF):=HB.I.1.cells.2.2.2.1;have z0:wr.drew.cell? ⟨w.heap.size+1,0,n_⟩=o_ (i_ j_ z.id):=(gm (x:=z) Cj.I).1;have i0:(0:Int)<=(k:Int):=zo
  have icap:(k:Int)<=(p.bF:Int):=zo
  have i2:(k:Int)<=(p.aj.length:Int):=zo
  rcases zm (fun y:bD=>y.id) z.id p.aj k with ⟨x,hx,hc,hlt⟩ | ⟨x,hx,hc,hlt⟩ | hlt
  .have HT:bN (∀ y∈p.aj.take (k+1),y.id < z.id):=nE hx HA.I hc
   have i1:(k:Int) < (p.aj.length:Int):=zo
   have d1:decide ((k:Int) < (p.aj.length:Int))=true:=decide_eq_true i1;have d2:decide (x.id < z.id)=true:=decide_eq_true hc;obtain ⟨g,ha,hat⟩:=lQ HB.I.2.1.at.2.1 hx;have c0:wr.drew.cell? ⟨g,k * 3,n_⟩=o_ (i_ j_ x.id):=hat.1;have m2:=m;rw [ha] at m2;clear hat hx ha hc;clear m;go_wp2_with fail;refine aT (fun w'=>w'=wr.drew) Zcq rfl ?_
   iterate 16 (refine PI ?_ (hy:=fun w0 hS0=>by subst hS0; go_simp; try with_reducible rfl))
   refine bk Zcq ?_ _;intro w1 cm;subst cm;go_wp2;go_roundw
   case rel=>exact ⟨k+1,zo,by go_num,HT.I,Ez.I⟩
   case measure=>simp [Go.RowKit.intOf]; omega
  focus
   have HX:bN (∀ y,p.aj[k]? =o_ y-> ¬ y.id < z.id):=fun y hy e=>by rw [hx] at hy; cases hy; exact hc e
   have i1:(k:Int) < (p.aj.length:Int):=zo
   have d1:decide ((k:Int) < (p.aj.length:Int))=true:=decide_eq_true i1;have d2:decide (x.id < z.id)=false:=decide_eq_false hc;obtain ⟨g,ha,hat⟩:=lQ HB.I.2.1.at.2.1 hx;have c0:wr.drew.cell? ⟨g,k * 3,n_⟩=o_ (i_ j_ x.id):=hat.1;have m2:=m;rw [ha] at m2;clear hat hx ha hc;clear m;go_wp2_with fail;refine aT (fun w'=>w'=wr.drew) Zcq rfl ?_
   iterate 16 (refine PI ?_ (hy:=fun w0 hS0=>by subst hS0; go_simp; try with_reducible rfl))
   refine bk Zcq ?_ _;intro w1 cm;subst cm;clear i1 d1 d2 c0 m2
  rotate_left
  focus
   have HX:bN (∀ y,p.aj[k]? =o_ y-> ¬ y.id < z.id):=fun y hy=>absurd (Lj.1 hy).1 hlt
   have d1:decide ((k:Int) < (p.aj.length:Int))=false:=decide_eq_false zo;go_wp2_with fail;refine aT (fun w'=>w'=wr.drew) Zcq rfl ?_
   iterate 6 (refine PI ?_ (hy:=fun w0 hS0=>by subst hS0; go_simp; try with_reducible rfl))
   iterate 9 (refine nl ?_; simp only [pt,sb,s0,s1])
   (refine PI ?_ (hy:=fun w0 hS0=>by subst hS0; go_simp; try with_reducible rfl))
   refine bk Zcq ?_ _;intro w1 cm;subst cm;clear d1 m
  all_goals
   clear hlt z0 Ez;go_wp2_with fail;refine Kr (S:=fun w'=>av w' w.heap.size p/\w'.heap[w.heap.size+1]? =o_ (c_ #[i_ j_ z.id,i_ j_ z.n,i_ j_ z.max] 89)) Zcq ⟨HB.I.1,Cj.I⟩ (fun bE=> ?_);generalize wr.drew.drew=V2 at *;refine tt 1 bE ?_ (hy:=fun w0 hS0=>by have q0:w0.cell? ⟨w.heap.size,3,n_⟩=o_ (s_ p.bc p.aj.length p.bF):=hS0.1.cells.2.2.2.1; obtain ⟨q1,q2,q3⟩:=gm (x:=z) hS0.2; go_simp; try with_reducible rfl);refine tt 2 bE ?_ (hy:=fun w0 hS0=>by have q0:w0.cell? ⟨w.heap.size,3,n_⟩=o_ (s_ p.bc p.aj.length p.bF):=hS0.1.cells.2.2.2.1; obtain ⟨q1,q2,q3⟩:=gm (x:=z) hS0.2; go_simp; try with_reducible rfl);refine tt 3 bE ?_ (hy:=fun w0 hS0=>by have q0:w0.cell? ⟨w.heap.size,3,n_⟩=o_ (s_ p.bc p.aj.length p.bF):=hS0.1.cells.2.2.2.1; obtain ⟨q1,q2,q3⟩:=gm (x:=z) hS0.2; go_simp; try with_reducible rfl);refine tt 4 bE ?_ (hy:=fun w0 hS0=>by have q0:w0.cell? ⟨w.heap.size,3,n_⟩=o_ (s_ p.bc p.aj.length p.bF):=hS0.1.cells.2.2.2.1; obtain ⟨q1,q2,q3⟩:=gm (x:=z) hS0.2; go_simp; try with_reducible rfl);refine tt 6 bE ?_ (hy:=fun w0 hS0=>by have q0:w0.cell? ⟨w.heap.size,3,n_⟩=o_ (s_ p.bc p.aj.length p.bF):=hS0.1.cells.2.2.2.1; obtain ⟨q1,q2,q3⟩:=gm (x:=z) hS0.2; go_simp; try with_reducible rfl);clear bE;have hkl:(p.aj.take k).length=k:=by rw [Lk]; omega
   have hq:=HQ.I;have hS: ∀ W,B_ V2.heap.size V2 W->av W w.heap.size p/\W.heap[w.heap.size+1]? =o_ (c_ #[i_ j_ z.id,i_ j_ z.n,i_ j_ z.max] 89):=fun W hb=>⟨(hb.block _ zo).trans HB.I.1,(hb.block _ zo).trans Cj.I⟩
   have wg:bN (∀ (W:w_) (g:Nat),B_ V2.heap.size V2 W->W.heap[g]? =o_ (c_ #[] 89)->V2.heap.size<=g-> ∃ a5 c5 w5,(Builtin.append_ #[25,25] 25 #[s_ (o_ ⟨g,0,n_⟩) 0 0,s_ p.bc k p.bF]).run J3 W= .ok (s_ a5 k c5) w5/\w5.ownsRow V2.heap.size 89 3 (s_ a5 k c5) k (dm.flat (p.aj.take k))/\B_ V2.heap.size V2 w5/\B_ V2.heap.size V2 w5/\ ∀ h,V2.heap.size<=h->h≠g->h < W.heap.size->w5.heap[h]? =W.heap[h]?):=fun W g hb hg hge=>by
    obtain ⟨a5,c5,w5,hap,oe,A7,-⟩:=uI W V2.heap.size (o_ ⟨g,0,n_⟩) 0 [] (i6 hg hge) p.bc (p.aj.take k) p.bF (uM k (HB.I.2.1.below hb).at.2.1.1) Zdl hb.size;rw [hkl] at hap oe;simp only [K4,Li,Ll] at hap oe;have iJ:B_ V2.heap.size V2 w5:=hb.grown A7 hb.size fun c e=>by cases e; exact hge
    exact ⟨a5,c5,w5,hap,oe,iJ,iJ,fun h _ hn hl=>A7.block h hl (fun e=>hn (by cases e; rfl))⟩
   have afR: ∀ (W:w_) (c:Obj),B_ V2.heap.size V2 W->B_ V2.heap.size V2 (W.alloc c):=fun W c hb=>hb.alloc hb.size _
   refine KW (rs:= [0,7]) Zcq zw ?_;refine KX rfl (fun K hK=> ?_) (KX rfl (fun K hK=> ?_) KY)
   focus
    have b1:B_ V2.heap.size V2 (V2.alloc (c_ #[] 89)):=afR _ _ (Kp _ _);simp only [KZ,K0];rw [if_pos (by rfl)];go_wp2_with fail;refine hK.out _ _ (hS _ b1) (fun bE=> ?_);clear hK K bE
    try simp only [pt,sb,s0,s1]
    have b7:B_ V2.heap.size V2 ((V2.alloc (c_ #[] 89)).alloc (c_ #[i_ j_ z.id,i_ j_ z.n,i_ j_ z.max] 89)):=afR _ _ b1;refine KW (rs:= [5,7]) Zcq zw ?_;refine KX rfl (fun K hK=> ?_) (KX rfl (fun K hK=> ?_) KY)
    focus
     clear b7;obtain ⟨a5,c5,w5,hap,oe,iJ,-,-⟩:=wg.I _ _ b1 (Kj _ _) (Ki _);simp only [KZ,K0,K1];rw [if_pos (by rfl)];refine cM _ _ _ rfl _ _ _ w5 rfl rfl hap ?_;refine hK.out _ _ (hS _ iJ) (fun bE=> ?_);clear hK K bE
     try simp only [pt,sb,s0,s1]
     refine L7 7 (fun K hK=> ?_);go_wp2_with fail;refine hK.out _ _ (hS _ (afR _ _ iJ)) (fun bE=> ?_);clear hK K bE
     try simp only [pt,sb,s0,s1]
     have qJ:bN ((w5.alloc (c_ #[i_ j_ z.id,i_ j_ z.n,i_ j_ z.max] 89)).ownsRow V2.heap.size 89 3 (s_ a5 k c5) k (dm.flat (p.aj.take k))/\(w5.alloc (c_ #[i_ j_ z.id,i_ j_ z.n,i_ j_ z.max] 89)).heap[w5.heap.size]? =o_ (c_ #[i_ j_ z.id,i_ j_ z.n,i_ j_ z.max] 89)/\B_ V2.heap.size V2 (w5.alloc (c_ #[i_ j_ z.id,i_ j_ z.n,i_ j_ z.max] 89))):=⟨cR oe ((Kp _ _).alloc (Ki _) _),Kj _ _,afR _ _ iJ⟩
     clear hap oe iJ b1 afR hS;generalize w5.alloc (c_ #[i_ j_ z.id,i_ j_ z.n,i_ j_ z.max] 89)=w6 at *;generalize w5.heap.size=gx at *
    rotate_left
    focus
     obtain ⟨a5,c5,w6,om,qH,jQ,-,zU⟩:=wg.I _ _ b7 ((PU zw).trans (Kj _ _)) (Ki _);simp only [KZ,K0,K1];rw [if_pos (by rfl)];go_wp2_with fail;refine hK.out _ _ (hS _ b7) (fun bE=> ?_);clear hK K bE
     try simp only [pt,sb,s0,s1]
     refine L7 5 (fun K hK=> ?_);refine cM _ _ _ rfl _ _ _ w6 rfl rfl om ?_;refine hK.out _ _ (hS _ jQ) (fun bE=> ?_);clear hK K bE
     try simp only [pt,sb,s0,s1]
     have qJ:bN (w6.ownsRow V2.heap.size 89 3 (s_ a5 k c5) k (dm.flat (p.aj.take k))/\w6.heap[(V2.heap.size+1)]? =o_ (c_ #[i_ j_ z.id,i_ j_ z.n,i_ j_ z.max] 89)/\B_ V2.heap.size V2 w6):=⟨qH,(zU _ zo zo Zc5).trans (by have h5:=Kj (V2.alloc (c_ #[] 89)) (c_ #[i_ j_ z.id,i_ j_ z.n,i_ j_ z.max] 89); simpa using h5),jQ⟩
     clear om qH jQ zU b1 b7 afR hS
   rotate_left 2
   focus
    have b7:B_ V2.heap.size V2 (V2.alloc (c_ #[i_ j_ z.id,i_ j_ z.n,i_ j_ z.max] 89)):=afR _ _ (Kp _ _);simp only [KZ,K0,K1];rw [if_pos (by rfl)];go_wp2_with fail;refine hK.out _ _ (hS _ b7) (fun bE=> ?_);clear hK K bE
    try simp only [pt,sb,s0,s1]
    have b1:B_ V2.heap.size V2 ((V2.alloc (c_ #[i_ j_ z.id,i_ j_ z.n,i_ j_ z.max] 89)).alloc (c_ #[] 89)):=afR _ _ b7;refine L7 0 (fun K hK=> ?_);go_wp2_with fail;refine hK.out _ _ (hS _ b1) (fun bE=> ?_);clear hK K bE
    try simp only [pt,sb,s0,s1]
    obtain ⟨a5,c5,w6,om,qH,jQ,-,zU⟩:=wg.I ((V2.alloc (c_ #[i_ j_ z.id,i_ j_ z.n,i_ j_ z.max] 89)).alloc (c_ #[] 89)) (V2.heap.size+1) b1 (Kq _ _ _) zo;refine L7 5 (fun K hK=> ?_);refine cM _ _ _ rfl _ _ _ w6 rfl rfl om ?_;refine hK.out _ _ (hS _ jQ) (fun bE=> ?_);clear hK K bE
    try simp only [pt,sb,s0,s1]
    have qJ:bN (w6.ownsRow V2.heap.size 89 3 (s_ a5 k c5) k (dm.flat (p.aj.take k))/\w6.heap[V2.heap.size]? =o_ (c_ #[i_ j_ z.id,i_ j_ z.n,i_ j_ z.max] 89)/\B_ V2.heap.size V2 w6):=⟨qH,(zU _ zo zo Zc5).trans ((PU zw).trans (Kj _ _)),jQ⟩
    clear om qH jQ zU b1 b7 afR hS
   all_goals
    have qH:w6.ownsRow V2.heap.size 89 3 (s_ a5 (p.aj.take k).length c5) (p.aj.take k).length (dm.flat (p.aj.take k)):=by rw [hkl]; exact qJ.I.1
    obtain ⟨a7,c7,w7,gT,mP,xI,-⟩:=uI w6 V2.heap.size a5 c5 (p.aj.take k) qH _ [z] 1 (jO qJ.I.2.1) Zdk qJ.I.2.2.size;have mI:(p.aj.take k ++ [z]).length=k+1:=by rw [Lf,hkl]; rfl
    rw [hkl] at gT mP;simp only [Lg,K4,Li] at gT mP;have gh:B_ V2.heap.size V2 w7:=qJ.I.2.2.grown xI qJ.I.2.2.size fun c e=>(cf qJ.I.1 (di e)).1
    have Em:bN (w7.ownsRow V2.heap.size 89 3 (s_ a7 (k+1) c7) (k+1) (dm.flat (p.aj.take k ++ [z]))/\B_ V2.heap.size V2 w7/\(p.aj.take k ++ [z]).length=k+1):=⟨mP,gh,mI⟩
    refine L7 8 (fun K hK=> ?_);refine cM _ _ _ rfl _ _ _ w7 rfl rfl gT ?_;refine hK.out _ _ ⟨(gh.block _ zo).trans HB.I.1,(gh.block _ zo).trans Cj.I⟩ (fun bE=> ?_);clear hK K bE
    try simp only [pt,sb,s0,s1]
    have H8:bN (((av (w7.setCell ⟨o,3,n_⟩ (s_ a7 (k+1) c7)) w.heap.size p/\ap (w7.setCell ⟨o,3,n_⟩ (s_ a7 (k+1) c7)) b0 p/\B_ w.heap.size w (w7.setCell ⟨o,3,n_⟩ (s_ a7 (k+1) c7))/\(w7.setCell ⟨o,3,n_⟩ (s_ a7 (k+1) c7)).heap[w.heap.size+1+1]? =o_ (c_ ar 31))/\(w7.setCell ⟨o,3,n_⟩ (s_ a7 (k+1) c7)).heap[o]? =o_ (c_ #[i_ j_ q.id,i_ j_ q.next,s_ q.aN q.L8.length q.aW,s_ a7 (k+1) c7,s_ q.ay q.L9.length q.aO,s_ q.ax q.ag.length q.aP,s_ q.am q.ae.length q.aG,s_ q.aK q.ai.length q.aV] 31)/\ap (w7.setCell ⟨o,3,n_⟩ (s_ a7 (k+1) c7)) W.heap.size q)/\(w7.setCell ⟨o,3,n_⟩ (s_ a7 (k+1) c7)).ownsRow V2.heap.size 89 3 (s_ a7 (k+1) c7) (k+1) (dm.flat (p.aj.take k ++ [z]))/\V2.heap.size<=(w7.setCell ⟨o,3,n_⟩ (s_ a7 (k+1) c7)).heap.size):=by
     exact pl
    have HX8:bN ((w7.setCell ⟨o,3,n_⟩ (s_ a7 (k+1) c7)).heap[w.heap.size+1]? =o_ (c_ #[i_ j_ z.id,i_ j_ z.n,i_ j_ z.max] 89)):=(aH zo).trans ((gh.block _ zo).trans Cj.I);obtain ⟨⟨u,co⟩,fo⟩:(∃ u,w7.cell? ⟨o,3,n_⟩=o_ u)/\w7.frozen? ⟨o,3,n_⟩=false:=⟨⟨_,(HQ.I.1.below gh).cells.2.2.2.1⟩,Ko _ _ _ _ _ (HQ.I.1.below gh)⟩
    have wj:av w7 w.heap.size p/\w7.heap[w.heap.size+1]? =o_ (c_ #[i_ j_ z.id,i_ j_ z.n,i_ j_ z.max] 89):=⟨(gh.block _ zo).trans HB.I.1,(gh.block _ zo).trans Cj.I⟩
    clear qH gT mP xI gh mI qJ wg;refine tt 9 wj ?_;refine L7 10 (fun K hK=> ?_);go_wp2_with fail;refine hK.out _ _ ⟨H8.I.1.1.1,HX8.I⟩ (fun bE=> ?_);clear hK K bE
    try simp only [pt,sb,s0,s1]
    refine K3 Zcq ?_ _;clear co fo wj hq HX8 Cj;go_wp2_with fail;generalize w7.setCell ⟨o,3,n_⟩ (s_ a7 (k+1) c7)=W8 at *;have HS:bN (W8.cell? ⟨w.heap.size,3,n_⟩=o_ (s_ p.bc p.aj.length p.bF)):=H8.I.1.1.1.cells.2.2.2.1;have co8:W8.drew.cell? ⟨o,3,n_⟩=o_ (s_ a7 (k+1) c7):=by rw [K5 _ _ _ _ _ _ (show W8.drew.heap[o]? =_ from H8.I.1.2.1)]; rfl
    obtain ⟨u6,Jx⟩: ∃ u6,(if p.bF=k then p.bc else Option.map (fun x=>x.add (k * 3)) p.bc)=u6:=⟨_,rfl⟩
    refine Kr (S:=fun w'=>w'.cell? ⟨w.heap.size,3,n_⟩=o_ (s_ p.bc p.aj.length p.bF)) Zcq HS.I (fun bE=> ?_);refine tt 0 bE ?_ (hy:=fun w0 hS0=>by have cm:=hS0; go_simp; try with_reducible rfl);refine tt 2 bE ?_ (hy:=fun w0 hS0=>by have cm:=hS0; go_simp; try with_reducible rfl);refine tt 3 bE ?_ (hy:=fun w0 hS0=>by have cm:=hS0; go_simp; try with_reducible rfl);refine tt 4 bE ?_ (hy:=fun w0 hS0=>by have cm:=hS0; go_simp; try with_reducible rfl);refine tt 5 bE ?_ (hy:=fun w0 hS0=>by have cm:=hS0; go_simp; try with_reducible rfl);refine L7 1 (fun K hK=> ?_);go_wp2_with fail;refine hK.out _ _ HS.I (fun bE=> ?_);clear hK K
    try simp only [pt,sb,s0,s1]
    have hbd:B_ W8.heap.size W8 W8.drew:=(Kp _ _).drew;have mI:=Em.I.2.2;have hkd:(p.aj.drop k).length=p.aj.length - k:=Ql;obtain ⟨a9,c9,w9,hr,xj,FW,-⟩:=uI W8.drew V2.heap.size a7 c7 (p.aj.take k ++ [z]) Zdg u6 (p.aj.drop k) (p.bF - k) (by rw [<- Jx]; exact qK hcap (H8.I.1.1.2.1.below hbd).at.2.1.1) (by rw [mI,hkd]; omega) H8.I.2.2;rw [mI,hkd] at hr xj;have kN:B_ V2.heap.size W8.drew w9:=(Kp _ _).grown (a:=W8.drew) FW H8.I.2.2 fun c e=>(cf H8.I.2.1 (di e)).1
    have hq:=HQ.I;have h8:=H8.I;have p7:o < V2.heap.size:=hq.2.2.2.2.2.2;have hwl:w.heap.size+1 < o:=zo
    have lV:w9.heap[o]? =o_ (c_ #[i_ j_ q.id,i_ j_ q.next,s_ q.aN q.L8.length q.aW,s_ a7 (k+1) c7,s_ q.ay q.L9.length q.aO,s_ q.ax q.ag.length q.aP,s_ q.am q.ae.length q.aG,s_ q.aK q.ai.length q.aV] 31):=(kN.block _ p7).trans h8.1.2.1;have YU:bN (w9.cell? ⟨w.heap.size,3,n_⟩=o_ (s_ p.bc p.aj.length p.bF)/\(w9.setCell ⟨o,3,n_⟩ (s_ a9 (k+1+(p.aj.length - k)) c9)).cell? ⟨w.heap.size,3,n_⟩=o_ (s_ p.bc p.aj.length p.bF)):=by
     have e1:w9.cell? ⟨w.heap.size,3,n_⟩=o_ (s_ p.bc p.aj.length p.bF):=(J1 (kN.block _ Zdn)).trans HS.I;exact Zbh
    have sR:((p.aj.take k ++ [z]) ++ p.aj.drop k).length=k+1+(p.aj.length - k):=by rw [Lf,mI,hkd]
    have gn:({ q with aj:=(p.aj.take k ++ [z]) ++ p.aj.drop k,bc:=a9,bF:=c9 } :af).pure= { p.pure with aj:=cA (·.id) z p.pure.aj } :=by
     have e1:(p.aj.take k ++ [z]) ++ p.aj.drop k=cA (·.id) z p.pure.aj:=by
      rw [Lm];exact tP HA.I (fun y hy=>by have h5:=HX.I y hy; show ¬ y.id < z.id; omega)
     have e2:=HQ.I.2.2.1
     show ({ q.pure with aj:=(p.aj.take k ++ [z]) ++ p.aj.drop k } :aE)=_
     rw [e1,e2]
    have eX:bN (av (w9.setCell ⟨o,3,n_⟩ (s_ a9 (k+1+(p.aj.length - k)) c9)) w.heap.size p/\ap (w9.setCell ⟨o,3,n_⟩ (s_ a9 (k+1+(p.aj.length - k)) c9)) b0 p/\B_ w.heap.size w (w9.setCell ⟨o,3,n_⟩ (s_ a9 (k+1+(p.aj.length - k)) c9))/\(w9.setCell ⟨o,3,n_⟩ (s_ a9 (k+1+(p.aj.length - k)) c9)).heap[w.heap.size+1+1]? =o_ (c_ ar 31)/\av (w9.setCell ⟨o,3,n_⟩ (s_ a9 (k+1+(p.aj.length - k)) c9)) o ({ q with aj:=(p.aj.take k ++ [z]) ++ p.aj.drop k,bc:=a9,bF:=c9 } :af)/\ap (w9.setCell ⟨o,3,n_⟩ (s_ a9 (k+1+(p.aj.length - k)) c9)) W.heap.size ({ q with aj:=(p.aj.take k ++ [z]) ++ p.aj.drop k,bc:=a9,bF:=c9 } :af)/\({ q with aj:=(p.aj.take k ++ [z]) ++ p.aj.drop k,bc:=a9,bF:=c9 } :af).pure= { p.pure with aj:=cA (·.id) z p.pure.aj }):=by
     have hpb: ∀ g∈p.Mc,g < w.heap.size:=Au.I;have nW: ∀ g∈q.Mc,g < o:=hq.2.2.2.1;have sm: ∀ g,g < V2.heap.size->g≠o->(w9.setCell ⟨o,3,n_⟩ (s_ a9 (k+1+(p.aj.length - k)) c9)).heap[g]? =W8.heap[g]? :=fun g hg hne=>(aH hne).trans (kN.block _ hg)
     have lY:B_ w.heap.size w (w9.setCell ⟨o,3,n_⟩ (s_ a9 (k+1+(p.aj.length - k)) c9)):=bP (h8.1.1.2.2.1.drew.trans (kN.mono zo)) zo;refine ⟨(sm _ zo zo).trans h8.1.1.1,h8.1.1.2.1.same fun g hg=>sm g ZcB ZcB,lY,(sm _ zo zo).trans h8.1.1.2.2.2,?_,?_,gn⟩
     .have h5:=cx (i:=3) (v:=s_ a9 (k+1+(p.aj.length - k)) c9) lV
      unfold av;simp only [sR];exact h5
     .refine h8.1.2.2.newSem (B:=V2.heap.size) zo (fun g hg=>by have:=nW g hg; omega) (fun g hg=>sm g ZcE ZcE) ?_
      exact Zbm
    refine L7 6 (fun K hK=> ?_);refine cM _ _ _ rfl _ _ _ w9 rfl rfl hr ?_;refine hK.out _ _ YU.I.1 (fun bE=> ?_);clear hK K
    try simp only [pt,sb,s0,s1]
    obtain ⟨⟨u,co⟩,fo⟩:(∃ u,w9.cell? ⟨o,3,n_⟩=o_ u)/\w9.frozen? ⟨o,3,n_⟩=false:=⟨⟨_,by rw [K5 _ _ _ _ _ _ lV]; rfl⟩,Ko _ _ _ _ _ lV⟩
    clear hr xj FW kN hq h8 p7 hwl lV hbd;refine tt 7 bE ?_ (hy:=fun w0 hS0=>by have cm:=hS0; go_simp; try with_reducible rfl);refine L7 8 (fun K hK=> ?_);go_wp2_with fail;refine hK.out _ _ YU.I.2 (fun bE=> ?_);clear hK K
    try simp only [pt,sb,s0,s1]
    refine K3 Zcq ?_ _;clear bE co fo YU HS co8;generalize w9.setCell ⟨o,3,n_⟩ (s_ a9 (k+1+(p.aj.length - k)) c9)=W10 at *;have Mb:=fi p ({ q with aj:=(p.aj.take k ++ [z]) ++ p.aj.drop k,bc:=a9,bF:=c9 } :af) W10 ⟨fl.I.1,fl.I.2.1,eX.I.2.1.at⟩ (fun hr=>by
     have h5:aE.Small ({ q with aj:=(p.aj.take k ++ [z]) ++ p.aj.drop k,bc:=a9,bF:=c9 } :af).pure:=by rw [eX.I.2.2.2.2.2.2]; exact yN fl.I.2.2.1 hr fl.I.2.2.2
     exact ⟨dV h5,fun x hx=>(cY h5 hx).1,eX.I.2.2.2.2.2.1.at⟩)
    obtain ⟨m0,m1,m2,m3,m4,m5,m6,m7⟩:=eX.I.1.cells;obtain ⟨k0,k1,k2,k3,k4,k5,k6,k7⟩:=eX.I.2.2.2.2.1.cells;unfold af.cells at Mb;simp only [sR] at Mb k0 k1 k2 k3 k4 k5 k6 k7;have DM:bN (((p.aj.take k ++ [z]) ++ p.aj.drop k).length=k+1+(p.aj.length - k)):=sR;clear sR mI hkd Jx gn;go_wp2_with fail;refine Mb.mono ?_;clear Mb m0 m1 m2 m3 m4 m5 m6 m7 k0 k1 k2 k3 k4 k5 k6 k7;rintro e ow ⟨gy,hok⟩;have hq:=HQ.I.2.2.2.2;have HZ:bN (B_ w.heap.size w ow/\ow.heap[w.heap.size+1+1]? =o_ (c_ ar 31)/\ap ow W.heap.size ({ q with aj:=(p.aj.take k ++ [z]) ++ p.aj.drop k,bc:=a9,bF:=c9 } :af)/\w.heap.size+1+1 < W.heap.size):=⟨eX.I.2.2.1.trans (gy.mono eX.I.2.2.1.size),(gy.block _ (J2.1 eX.I.2.2.2.1).1).trans eX.I.2.2.2.1,eX.I.2.2.2.2.2.1.below gy,hq.2.1⟩
    clear gy hq;rw [eX.I.2.2.2.2.2.2] at hok;rcases hok with ⟨hok,rfl⟩ | ⟨hok,rfl⟩
    .have HN:bN (cB p.pure { p.pure with aj:=cA (·.id) z p.pure.aj } =o_ { p.pure with aj:=cA (·.id) z p.pure.aj }):=jS hok
     clear hok;go_wp2_with (refine ec _ _ #[i_ j_ q.id,i_ j_ q.next,s_ q.aN q.L8.length q.aW,s_ a9 (k+1+(p.aj.length - k)) c9,s_ q.ay q.L9.length q.aO,s_ q.ax q.ag.length q.aP,s_ q.am q.ae.length q.aG,s_ q.aK q.ai.length q.aV] HZ.I.2.1 ?_);refine mG results73 (b_ true) HZ.I.2.1 ?_;have hl:=HZ.I.2.2.2;rw [HN.I];refine ⟨({ q with aj:=(p.aj.take k ++ [z]) ++ p.aj.drop k,bc:=a9,bF:=c9 } :af),by unfold af.cells; simp only [DM.I]; rfl,(HZ.I.2.2.1.lower zo).same fun g hg=>KH _ _ _ _ ZcA,eX.I.2.2.2.2.2.2,q_ HZ.I.1 zo _⟩
    .have HN:bN (cB p.pure { p.pure with aj:=cA (·.id) z p.pure.aj } =n_):=jh hok
     clear hok;go_wp2_with (refine ec _ _ ar HZ.I.2.1 ?_);refine mG results73 (b_ false) HZ.I.2.1 ?_;exact X_
end
section
abbrev newP (id RX:Int) (l:List dN):aD:=⟨id,RX,l,0,0,0,0,0,⟨#[]⟩,⟨#[]⟩,0,0⟩
section
variable {p:aE} {id RX:Int} {l:List dN}
def pO (h:p.Small) (hr:bK p=true) (hx:l.length<=1048576/\ ∀ o∈l,o.2.2.2.size<=1048576) (hw:(Lit.int j_ id).wf=true):aE.Small { p with L8:=bY (·.id) (newP id RX l) p.L8 } :=by
 have h2:=((ch _).1 hr).dl;exact ⟨by show (bY (·.id) (newP id RX l) p.L8).length<=_; rw [er]; omega,h.fx,h.cD,h.cC,h.cb,h.dH,fun y hy=>(fq.1 hy).elim (fun e=>e ▸ ⟨⟨hx.1,hx.2,Ky _,Ky _⟩,hw,by show (Lit.int j_ 0).wf=true; decide,by show (Lit.int j_ 0).wf=true; decide⟩) (h.L8 y),h.aj,h.L9,h.ag,h.ae,h.ai⟩
end
def pU {p:aE} {x:dS} (h:p.Small) (hr:bK p=true) (hx:(Lit.int j_ x.id).wf=true/\x.Ma.length<=1048576/\ ∀ s∈x.Ma,s.size<=1048576):aE.Small { p with ai:=bY (·.id) x p.ai } :=by
 have h2:=((ch _).1 hr).dH;exact ⟨h.dl,h.fx,h.cD,h.cC,h.cb,by show (bY (·.id) x p.ai).length<=_; rw [er]; omega,h.L8,h.aj,h.L9,h.ag,h.ae,fun y hy=>(fq.1 hy).elim (fun e=>e ▸ hx) (h.ai y)⟩
end
section
open Go.Maps
attribute [local go_sem ↓] Kc Kd
def fy.drew {α:Type} {K:Kind α} {T:T_} {t8:Array v_} {W w:w_} {acc:List α} {a:Option d_} {c:Nat} (h:fy K T t8 W w acc a c):fy K T t8 W w.drew acc a c:=⟨aL h.own fun _ _=>rfl,h.ne,h.cd.drew,h.box⟩
def DY {p q:af} {w W W2 w9:w_} {o b0 n9 c9:Nat} {x:aM} {xp:dS} {t8:Array v_} {acc:List aM} {a9:Option d_} (hB:av W2 w.heap.size p/\ap W2 b0 p/\B_ w.heap.size w W2/\W2.heap[w.heap.size+1+1]? =o_ (c_ ar 31))
  (hQ:av W2 o q/\ap W2 W.heap.size q/\q.pure=p.pure/\(∀ g∈q.Mc,g < o)/\W.heap.size<=o/\w.heap.size+1+1 < W.heap.size/\o < W2.heap.size) (hpb: ∀ g∈p.Mc,g < w.heap.size) (hl:fy bX 115 t8 W2 w9 acc a9 c9) (ha:acc=bY (fun y:aM=>y.id) x q.ai) (hn:acc.length=n9) (hx:x.todS=xp)
  (hk: ∀ g,aU.bt x=o_ g->g∉q.Mc/\g≠o) (hm:aU.cO W2 W.heap.size x):
  (av (w9.setCell ⟨o,7,n_⟩ (s_ a9 n9 c9)) w.heap.size p/\ap (w9.setCell ⟨o,7,n_⟩ (s_ a9 n9 c9)) b0 p/\B_ w.heap.size w (w9.setCell ⟨o,7,n_⟩ (s_ a9 n9 c9))/\(w9.setCell ⟨o,7,n_⟩ (s_ a9 n9 c9)).heap[w.heap.size+1+1]? =o_ (c_ ar 31))/\av (w9.setCell ⟨o,7,n_⟩ (s_ a9 n9 c9)) o ({ q with ai:=acc,aK:=a9,aV:=c9 } :af)/\ap (w9.setCell ⟨o,7,n_⟩ (s_ a9 n9 c9)) W.heap.size ({ q with ai:=acc,aK:=a9,aV:=c9 } :af)/\({ q with ai:=acc,aK:=a9,aV:=c9 } :af).pure= { p.pure with ai:=bY (·.id) xp p.pure.ai } :=by
 have hb:=hl.cd;have nW:=hQ.2.2.2.1;have sm: ∀ g,g < W2.heap.size->g≠o->(w9.setCell ⟨o,7,n_⟩ (s_ a9 n9 c9)).heap[g]? =W2.heap[g]? :=fun g hg hne=>(aH hne).trans (hb.block _ hg)
 have lY:B_ w.heap.size w (w9.setCell ⟨o,7,n_⟩ (s_ a9 n9 c9)):=bP (hB.2.2.1.trans (hb.mono zo)) zo;have iH: ∀ g∈acc.filterMap aU.bt,g∈q.ai.filterMap aU.bt\/aU.bt x=o_ g:=fun g hg=>by
  exact Zaf
 have hin: ∀ g∈q.ai.filterMap aU.bt,g∈q.Mc:=fun g hg=>by simp only [af.Mc,Kg]; simp [hg]
 refine ⟨⟨(sm _ zo zo).trans hB.1,hB.2.1.same fun g hg=>sm g ZcB ZcB,lY,(sm _ zo zo).trans hB.2.2.2⟩,?_,?_,?_⟩
 .have h5:=cx (i:=7) (v:=s_ a9 n9 c9) ((hb.block _ hQ.2.2.2.2.2.2).trans hQ.1)
  unfold av;simp only [hn];exact h5
 .refine hQ.2.1.Jb (B:=W2.heap.size) zo (fun g hg=>by have:=nW g hg; omega) (fun g hg=>sm g ZcE ZcE) ?_ (fun z hz=> ?_) ?_ (fun g hg=> ?_) (fun g hg=> ?_)
  .exact Zbn
  .rw [ha] at hz
   rcases fq.1 hz with rfl | hz
   .exact ZbC
   .refine (hQ.2.1.eR z hz).same fun g hg=> ?_
    exact Za0
  .have h5:=hQ.2.1.nodup
   simp only [af.Mc,Kf] at h5;have h6:(q.ai.filterMap aU.bt).Nodup:=h5.2.1.2.1.2.1.2.1.2.1.2.1.2.1.2.1;have hp:(acc.filterMap aU.bt).Perm ((x :: q.ai).filterMap aU.bt):=by rw [ha]; exact (pz x _).filterMap _
   refine hp.nodup_iff.2 ?_;cases he:aU.bt x with
   | none=>rw [List.filterMap_cons_none he]; exact h6
   | some g=>rw [List.filterMap_cons_some he]; exact Lp.2 ⟨fun h7=>(hk g he).1 (hin g h7),h6⟩
  .exact Zbc
  .exact ZaT
 .show ({ q.pure with ai:=acc.map (·.todS) } :aE)=_
  have e1:q.ai.map (·.todS)=p.pure.ai:=congrArg aE.ai hQ.2.2.1;rw [ha,rF (je:=(·.id)) (fun y:aM=>y.todS) (fun _=>rfl),e1,hx,hQ.2.2.1]
def nd (p:af) (z:aM) (w:w_) (b0:Nat) (hwf:(Lit.int j_ z.id).wf=true) (qY:p.pure.Small) (h:ap w b0 p):
  k_ J3 77 #[a_ p.cells,a_ #[i_ j_ z.id,b_ z.I,b_ z.Mf,i_ j_ z.max,s_ z.ak z.Ma.length z.aq]] w fun e w'=>gI w (cB p.pure { p.pure with ai:=bY (·.id) (⟨z.id,z.I,z.Mf,z.max,[]⟩:dS) p.pure.ai }) e w':=by
 have HB:bN (av (((w.alloc (c_ p.cells 31)).alloc (c_ #[i_ j_ z.id,b_ z.I,b_ z.Mf,i_ j_ z.max,s_ z.ak z.Ma.length z.aq] 115)).alloc (c_ ar 31)) w.heap.size p/\ap (((w.alloc (c_ p.cells 31)).alloc (c_ #[i_ j_ z.id,b_ z.I,b_ z.Mf,i_ j_ z.max,s_ z.ak z.Ma.length z.aq] 115)).alloc (c_ ar 31)) b0 p/\B_ w.heap.size w (((w.alloc (c_ p.cells 31)).alloc (c_ #[i_ j_ z.id,b_ z.I,b_ z.Mf,i_ j_ z.max,s_ z.ak z.Ma.length z.aq] 115)).alloc (c_ ar 31))/\(((w.alloc (c_ p.cells 31)).alloc (c_ #[i_ j_ z.id,b_ z.I,b_ z.Mf,i_ j_ z.max,s_ z.ak z.Ma.length z.aq] 115)).alloc (c_ ar 31)).heap[w.heap.size+1+1]? =o_ (c_ ar 31)):=by
  have b1:B_ w.heap.size w (((w.alloc (c_ p.cells 31)).alloc (c_ #[i_ j_ z.id,b_ z.I,b_ z.Mf,i_ j_ z.max,s_ z.ak z.Ma.length z.aq] 115)).alloc (c_ ar 31)):=fg _ _ _ _;have h3:=dR w (c_ p.cells 31) (c_ #[i_ j_ z.id,b_ z.I,b_ z.Mf,i_ j_ z.max,s_ z.ak z.Ma.length z.aq] 115) (c_ ar 31);exact ⟨h3.1,h.below b1,b1,h3.2.2.1⟩
 have Cj:bN ((((w.alloc (c_ p.cells 31)).alloc (c_ #[i_ j_ z.id,b_ z.I,b_ z.Mf,i_ j_ z.max,s_ z.ak z.Ma.length z.aq] 115)).alloc (c_ ar 31)).heap[w.heap.size+1]? =o_ (c_ #[i_ j_ z.id,b_ z.I,b_ z.Mf,i_ j_ z.max,s_ z.ak z.Ma.length z.aq] 115)):=(dR _ _ _ _).2.1;have fl:bN (p.Fit/\(∀ x∈p.L8,x.dX)/\p.pure.Small/\(Lit.int j_ z.id).wf=true):=⟨dV qY,fun x hx=>(cY qY hx).1,qY,hwf⟩
 have hpl:p.ai.length<=1048576:=fl.I.1.short.ai;have pd: ∀ g∈p.Mc,g < w.heap.size:=fun g hg=>(h.lt g hg).2
 clear h qY hwf;obtain ⟨m0,m1,m2,m3,m4,m5,m6,m7⟩:=HB.I.1.cells;unfold af.cells at *
 go_enter func77,ntmps77
 go_wp2_with fail;generalize ((w.alloc (c_ p.row 31)).alloc (c_ #[i_ j_ z.id,b_ z.I,b_ z.Mf,i_ j_ z.max,s_ z.ak z.Ma.length z.aq] 115)).alloc (c_ ar 31)=W at *;clear m0 m1 m2 m3 m4 m5 m6 m7;refine (fR p W fl.I.1 fl.I.2.1 HB.I.2.1.at).mono ?_;rintro e W1 ⟨q,rfl,hown,gn,hb1⟩;have hb2:B_ W1.heap.size W1 (W1.alloc (c_ q.cells 31)):=(Kp _ _).alloc (Ki _) _;have hlt:w.heap.size+1+1 < W.heap.size:=(J2.1 HB.I.2.2.2).1;have hb3:B_ W.heap.size W (W1.alloc (c_ q.cells 31)):=hb1.trans (hb2.mono hb1.size);have hq1: ∀ g∈q.Mc,g < W1.heap.size:=fun g hg=>(hown.lt g hg).2
 have hql:q.ai.length<=1048576:=by have e1:=congrArg (fun z=>z.ai.length) gn; simp only [af.pure,KG] at e1; omega
 have HQ:bN (av (W1.alloc (c_ q.cells 31)) W1.heap.size q/\ap (W1.alloc (c_ q.cells 31)) W.heap.size q/\q.pure=p.pure/\(∀ g∈q.Mc,g < W1.heap.size)/\W.heap.size<=W1.heap.size/\w.heap.size+1+1 < W.heap.size/\W1.heap.size < (W1.alloc (c_ q.cells 31)).heap.size):=⟨Kj _ _,hown.below hb2,gn,hq1,hb1.size,hlt,by simp⟩
 replace HB:bN (av (W1.alloc (c_ q.cells 31)) w.heap.size p/\ap (W1.alloc (c_ q.cells 31)) b0 p/\B_ w.heap.size w (W1.alloc (c_ q.cells 31))/\(W1.alloc (c_ q.cells 31)).heap[w.heap.size+1+1]? =o_ (c_ ar 31)):=⟨HB.I.1.below hb3,HB.I.2.1.below hb3,HB.I.2.2.1.trans (hb3.mono HB.I.2.2.1.size),(hb3.block _ hlt).trans HB.I.2.2.2⟩
 replace Cj:bN ((W1.alloc (c_ q.cells 31)).heap[w.heap.size+1]? =o_ (c_ #[i_ j_ z.id,b_ z.I,b_ z.Mf,i_ j_ z.max,s_ z.ak z.Ma.length z.aq] 115)):=(hb3.block _ zo).trans Cj.I;have hbz:B_ (W1.alloc (c_ q.cells 31)).heap.size (W1.alloc (c_ q.cells 31)) ((W1.alloc (c_ q.cells 31)).alloc (c_ #[] 115)):=(Kp _ _).alloc (Ki _) _;obtain ⟨z0,z1,z2,z3,z4⟩:=gE (x:=z) ((hbz.block _ (by have:=hb3.size; omega)).trans Cj.I);clear hbz;have Au:bN (∀ g∈p.Mc,g < w.heap.size):=fun g hg=>pd g hg
 clear hown gn hb1 hb2 hb3 hq1 hlt pd;have En:bN (fy bX 115 #[i_ j_ z.id,b_ z.I,b_ z.Mf,i_ j_ z.max,s_ n_ 0 0] (W1.alloc (c_ q.cells 31)) (((W1.alloc (c_ q.cells 31)).alloc (c_ #[] 115)).alloc (c_ #[i_ j_ z.id,b_ z.I,b_ z.Mf,i_ j_ z.max,s_ n_ 0 0] 115)) [] (o_ ⟨(W1.alloc (c_ q.cells 31)).heap.size,0,n_⟩) 0):=fy.start;have Hw:(W1.alloc (c_ q.cells 31)).heap.size=W1.heap.size+1:=by simp
 have HW:bN ((W1.alloc (c_ q.cells 31)).heap.size=W1.heap.size+1):=Hw;clear Hw;unfold af.cells at *;go_wp2_with fail;clear z0 z1 z2 z3 z4;generalize W1.alloc (c_ q.row 31)=W2 at *;generalize W1.heap.size=o at *
 go_loopw [7,9,10] (fun l d i wr=> ∃ (k:Nat) (dn:Bool) (acc:List aM) (a:Option d_) (c:Nat),k<=q.ai.length/\i=i_ j_ k/\d=b_ dn/\l=s_ a acc.length c/\bN (fy bX 115 #[i_ j_ z.id,b_ z.I,b_ z.Mf,i_ j_ z.max,s_ n_ 0 0] W2 wr acc a c/\gY (fun y:aM=>y.id) (⟨⟨z.id,z.I,z.Mf,z.max,[]⟩,n_,0⟩:aM) q.ai k dn acc)) (fun _ _ i _=>q.ai.length - (Go.RowKit.intOf i).toNat)
 case atStart=>exact ⟨0,false,[],o_ ⟨W2.heap.size,0,n_⟩,0,Ky _,rfl,rfl,by rw [HW.I]; rfl,⟨En.I,gY.start _ _⟩⟩
 case round=>
  obtain ⟨k,dn,acc,a,c,hk,rfl,rfl,rfl,HA⟩:=hrel;have i0:(0:Int)<=(k:Int):=zo
  have mo0:wr.cell? ⟨o,7,n_⟩=o_ (s_ q.aK q.ai.length q.aV):=(HQ.I.1.below HA.I.1.cd).cells.2.2.2.2.2.2.2;have hal:=HA.I.2.le;by_cases hlt:k < q.ai.length
  .have i1:(k:Int) < (q.ai.length:Int):=zo
   replace HA:bN (fy bX 115 #[i_ j_ z.id,b_ z.I,b_ z.Mf,i_ j_ z.max,s_ n_ 0 0] W2 wr.drew acc a c/\gY (fun y:aM=>y.id) (⟨⟨z.id,z.I,z.Mf,z.max,[]⟩,n_,0⟩:aM) q.ai k dn acc):=⟨HA.I.1.drew,HA.I.2⟩
   have hbr:=HA.I.1.cd;have ajP:wr.drew.cell? ⟨o,7,n_⟩=o_ (s_ q.aK q.ai.length q.aV):=(HQ.I.1.below hbr).cells.2.2.2.2.2.2.2;have ali:wr.drew.cell? ⟨w.heap.size+1,0,n_⟩=o_ (i_ j_ z.id):=(gE (x:=z) ((hbr.block _ (by have:=HQ.I.2.2.2.2; omega)).trans Cj.I)).1;obtain ⟨y,hy⟩: ∃ y,q.ai[k]? =o_ y:=⟨_,Kz hlt⟩
   have HY:bN (q.ai[k]? =o_ y):=hy;obtain ⟨g,ha,hat⟩:=lm (HQ.I.2.1.below hbr).at.2.2.2.2.2 hy;rw [ha] at ajP;obtain ⟨d0,d1,d2,d3,d4⟩:=hat;have HG:bN (q.aK=o_ ⟨g,0,n_⟩):=ha;clear ha hy;obtain ⟨a5,c5,w5,hap,rL⟩:=HA.I.1.add 29 48 (P:=J3) underlying29 na rfl (by decide) (by decide) y #[i_ j_ y.id,b_ y.I,b_ y.Mf,i_ j_ y.max,s_ y.ak y.Ma.length y.aq] rfl qX zo;have F5:bN (fy bX 115 #[i_ j_ z.id,b_ z.I,b_ z.Mf,i_ j_ z.max,s_ n_ 0 0] W2 w5 (acc ++ [y]) a5 c5):=rL;clear rL;cases dn;rotate_left
   .
    go_wp2_with fail;refine aT (fun w'=>w'=wr.drew) Zcq rfl ?_
    iterate 3 (refine PI ?_ (hy:=fun w0 hS0=>by subst hS0; go_simp; try with_reducible rfl))
    iterate 9 (refine nl ?_; simp only [pt,sb,s0,s1])
    (refine PI ?_ (hy:=fun w0 hS0=>by subst hS0; go_simp; try with_reducible rfl))
    refine bk Zcq ?_ _;intro w1 cm;subst cm;clear mo0;go_wp2_with (at_builtin; first | (refine br _ rfl _ _ 29 rfl _ _ _ _ rfl rfl hap ?_; clear hap))
    exact S_
   by_cases hc:z.id < y.id;rotate_left
   .have HC:bN (¬ z.id < y.id):=hc
    have d2:decide (z.id < y.id)=false:=decide_eq_false hc;go_wp2_with fail;refine aT (fun w'=>w'=wr.drew) Zcq rfl ?_
    iterate 13 (refine PI ?_ (hy:=fun w0 hS0=>by subst hS0; go_simp; try with_reducible rfl))
    refine bk Zcq ?_ _;intro w1 cm;subst cm;clear mo0;go_wp2_with (at_builtin; first | (refine br _ rfl _ _ 29 rfl _ _ _ _ rfl rfl hap ?_; clear hap))
    go_round
    case rel=>exact ⟨k+1,false,acc ++ [y],a5,c5,zo,by go_num,rfl,by simp,⟨F5.I,HA.I.2.past HY.I (Int.not_lt.mpr HC.I)⟩⟩
    case measure=>simp [Go.RowKit.intOf]; omega
   clear hap F5 a5 c5 w5;have HC:bN (z.id < y.id):=hc;have d2:decide (z.id < y.id)=true:=decide_eq_true hc;obtain ⟨a5,c5,w5,hap,rL⟩:=HA.I.1.add 29 48 (P:=J3) underlying29 na rfl (by decide) (by decide) (⟨⟨z.id,z.I,z.Mf,z.max,[]⟩,n_,0⟩:aM) #[i_ j_ z.id,b_ z.I,b_ z.Mf,i_ j_ z.max,s_ n_ 0 0] rfl qX zo;obtain ⟨a7,c7,w7,gT,mI⟩:=rL.add 29 48 (P:=J3) underlying29 na rfl (by decide) (by decide) y #[i_ j_ y.id,b_ y.I,b_ y.Mf,i_ j_ y.max,s_ y.ak y.Ma.length y.aq] rfl qX Zcr;rw [Lf] at gT;simp only [Lg,K4,Li] at gT;have HL7:bN (fy bX 115 #[i_ j_ z.id,b_ z.I,b_ z.Mf,i_ j_ z.max,s_ n_ 0 0] W2 w7 (acc ++ [(⟨⟨z.id,z.I,z.Mf,z.max,[]⟩,n_,0⟩:aM)] ++ [y]) a7 c7):=mI;have mo5:w5.cell? ⟨o,7,n_⟩=o_ (s_ q.aK q.ai.length q.aV):=(HQ.I.1.below rL.cd).cells.2.2.2.2.2.2.2;obtain ⟨g2,ha2,g8⟩:=lm (HQ.I.2.1.below rL.cd).at.2.2.2.2.2 HY.I;rw [HG.I] at ha2 mo5;cases ha2;obtain ⟨e0,e1,e2,e3,e4⟩:=g8;obtain ⟨x0,x1,x2,x3,x4⟩:=gE (x:=(⟨⟨z.id,z.I,z.Mf,z.max,[]⟩,n_,0⟩:aM)) (X:=o+1+1) (W:=wr.drew) ZcX;clear rL mI;simp only [K4] at *;go_wp2_with fail;refine aT (fun w'=>w'=wr.drew) Zcq rfl ?_
   iterate 13 (refine PI ?_ (hy:=fun w0 hS0=>by subst hS0; go_simp; try with_reducible rfl))
   refine bk Zcq ?_ _;intro w1 cm;subst cm;clear mo0;go_wp2_with (at_builtin; first | (refine br _ rfl _ _ 29 rfl _ _ _ _ rfl rfl hap ?_; clear hap) | (refine br _ rfl _ _ 29 rfl _ _ _ _ rfl rfl gT ?_; clear gT))
   go_round
   case rel=>exact ⟨k+1,true,acc ++ [(⟨⟨z.id,z.I,z.Mf,z.max,[]⟩,n_,0⟩:aM)] ++ [y],a7,c7,zo,by go_num,rfl,by simp,⟨HL7.I,HA.I.2.here HY.I HC.I⟩⟩
   case measure=>simp [Go.RowKit.intOf]; omega
  have i1: ¬ (k:Int) < (q.ai.length:Int):=zo
  have hbr:=HA.I.1.cd;cases dn
  .obtain ⟨a9,c9,w9,hap,Jy⟩:=HA.I.1.add 29 48 (P:=J3) underlying29 na rfl (by decide) (by decide) (⟨⟨z.id,z.I,z.Mf,z.max,[]⟩,n_,0⟩:aM) #[i_ j_ z.id,b_ z.I,b_ z.Mf,i_ j_ z.max,s_ n_ 0 0] rfl qX zo
   have HR:bN (fy bX 115 #[i_ j_ z.id,b_ z.I,b_ z.Mf,i_ j_ z.max,s_ n_ 0 0] W2 w9 (acc ++ [(⟨⟨z.id,z.I,z.Mf,z.max,[]⟩,n_,0⟩:aM)]) a9 c9/\acc ++ [(⟨⟨z.id,z.I,z.Mf,z.max,[]⟩,n_,0⟩:aM)] =bY (fun y:aM=>y.id) (⟨⟨z.id,z.I,z.Mf,z.max,[]⟩,n_,0⟩:aM) q.ai/\(acc ++ [(⟨⟨z.id,z.I,z.Mf,z.max,[]⟩,n_,0⟩:aM)]).length=acc.length+1):=⟨Jy,HA.I.2.last hlt,by simp⟩
   obtain ⟨x0,x1,x2,x3,x4⟩:=gE (x:=(⟨⟨z.id,z.I,z.Mf,z.max,[]⟩,n_,0⟩:aM)) (X:=o+1+1) (W:=wr) ZcX;simp only [K4] at x0 x1 x2 x3 x4;clear Jy;have eX:bN (_):=DY HB.I HQ.I Au.I HR.I.1 HR.I.2.1 HR.I.2.2 rfl (fun g hg=>by cases hg) (Ke _ _ _ _);have Mb:=fi p ({ q with ai:=(acc ++ [(⟨⟨z.id,z.I,z.Mf,z.max,[]⟩,n_,0⟩:aM)]),aK:=a9,aV:=c9 } :af) (w9.setCell ⟨o,7,n_⟩ (s_ a9 (acc.length+1) c9)) ⟨fl.I.1,fl.I.2.1,eX.I.1.2.1.at⟩ (fun hr=>by
    have h5:aE.Small ({ q with ai:=(acc ++ [(⟨⟨z.id,z.I,z.Mf,z.max,[]⟩,n_,0⟩:aM)]),aK:=a9,aV:=c9 } :af).pure:=by rw [eX.I.2.2.2]; exact pU fl.I.2.2.1 hr ⟨fl.I.2.2.2,Ky _,(fun s hs=>by cases hs)⟩
    exact ⟨dV h5,fun x hx=>(cY h5 hx).1,eX.I.2.2.1.at⟩)
   obtain ⟨m0,m1,m2,m3,m4,m5,m6,m7⟩:=eX.I.1.1.cells;obtain ⟨k0,k1,k2,k3,k4,k5,k6,k7⟩:=eX.I.2.1.cells;obtain ⟨⟨u,co⟩,fo⟩:(∃ u,w9.cell? ⟨o,7,n_⟩=o_ u)/\w9.frozen? ⟨o,7,n_⟩=false:=⟨⟨_,(HQ.I.1.below HR.I.1.cd).cells.2.2.2.2.2.2.2⟩,Ko _ _ _ _ _ (HQ.I.1.below HR.I.1.cd)⟩
   unfold af.cells at Mb;have sR:=HR.I.2.2;simp only [sR] at Mb k0 k1 k2 k3 k4 k5 k6 k7;clear sR;go_wp2_with (at_builtin; first | (refine br _ rfl _ _ 29 rfl _ _ _ _ rfl rfl hap ?_; clear hap));refine Mb.mono ?_;clear Mb m0 m1 m2 m3 m4 m5 m6 m7 k0 k1 k2 k3 k4 k5 k6 k7;rintro e ow ⟨gy,hok⟩;have hq:=HQ.I.2.2.2.2;have HZ:bN (B_ w.heap.size w ow/\ow.heap[w.heap.size+1+1]? =o_ (c_ ar 31)/\ap ow W.heap.size ({ q with ai:=(acc ++ [(⟨⟨z.id,z.I,z.Mf,z.max,[]⟩,n_,0⟩:aM)]),aK:=a9,aV:=c9 } :af)/\w.heap.size+1+1 < W.heap.size):=⟨eX.I.1.2.2.1.trans (gy.mono eX.I.1.2.2.1.size),(gy.block _ (J2.1 eX.I.1.2.2.2).1).trans eX.I.1.2.2.2,eX.I.2.2.1.below gy,hq.2.1⟩
   clear gy hq;rw [eX.I.2.2.2] at hok;rcases hok with ⟨hok,rfl⟩ | ⟨hok,rfl⟩
   .have HN:bN (cB p.pure { p.pure with ai:=bY (·.id) (⟨z.id,z.I,z.Mf,z.max,[]⟩:dS) p.pure.ai } =o_ { p.pure with ai:=bY (·.id) (⟨z.id,z.I,z.Mf,z.max,[]⟩:dS) p.pure.ai }):=jS hok
    clear hok;go_wp2_with (refine ec _ _ #[i_ j_ q.id,i_ j_ q.next,s_ q.aN q.L8.length q.aW,s_ q.bc q.aj.length q.bF,s_ q.ay q.L9.length q.aO,s_ q.ax q.ag.length q.aP,s_ q.am q.ae.length q.aG,s_ a9 (acc.length+1) c9] HZ.I.2.1 ?_);refine mG results77 (b_ true) HZ.I.2.1 ?_;have hl:=HZ.I.2.2.2;rw [HN.I];refine ⟨({ q with ai:=(acc ++ [(⟨⟨z.id,z.I,z.Mf,z.max,[]⟩,n_,0⟩:aM)]),aK:=a9,aV:=c9 } :af),by unfold af.cells; simp only [HR.I.2.2]; rfl,(HZ.I.2.2.1.lower zo).same fun g hg=>KH _ _ _ _ ZcA,eX.I.2.2.2,q_ HZ.I.1 zo _⟩
   .exact Zb9
  .have HR:bN (fy bX 115 #[i_ j_ z.id,b_ z.I,b_ z.Mf,i_ j_ z.max,s_ n_ 0 0] W2 wr acc a c/\acc=bY (fun y:aM=>y.id) (⟨⟨z.id,z.I,z.Mf,z.max,[]⟩,n_,0⟩:aM) q.ai/\acc.length=acc.length):=⟨HA.I.1,HA.I.2.done hlt,rfl⟩
   have eX:bN (_):=DY HB.I HQ.I Au.I HR.I.1 HR.I.2.1 HR.I.2.2 rfl (fun g hg=>by cases hg) (Ke _ _ _ _);have Mb:=fi p ({ q with ai:=acc,aK:=a,aV:=c } :af) (wr.setCell ⟨o,7,n_⟩ (s_ a acc.length c)) ⟨fl.I.1,fl.I.2.1,eX.I.1.2.1.at⟩ (fun hr=>by
    have h5:aE.Small ({ q with ai:=acc,aK:=a,aV:=c } :af).pure:=by rw [eX.I.2.2.2]; exact pU fl.I.2.2.1 hr ⟨fl.I.2.2.2,Ky _,(fun s hs=>by cases hs)⟩
    exact ⟨dV h5,fun x hx=>(cY h5 hx).1,eX.I.2.2.1.at⟩)
   obtain ⟨m0,m1,m2,m3,m4,m5,m6,m7⟩:=eX.I.1.1.cells;obtain ⟨k0,k1,k2,k3,k4,k5,k6,k7⟩:=eX.I.2.1.cells;obtain ⟨⟨u,co⟩,fo⟩:(∃ u,wr.cell? ⟨o,7,n_⟩=o_ u)/\wr.frozen? ⟨o,7,n_⟩=false:=⟨⟨_,(HQ.I.1.below HR.I.1.cd).cells.2.2.2.2.2.2.2⟩,Ko _ _ _ _ _ (HQ.I.1.below HR.I.1.cd)⟩
   unfold af.cells at Mb;simp only at Mb k0 k1 k2 k3 k4 k5 k6 k7;go_wp2_with fail;refine Mb.mono ?_;clear Mb m0 m1 m2 m3 m4 m5 m6 m7 k0 k1 k2 k3 k4 k5 k6 k7;rintro e ow ⟨gy,hok⟩;have hq:=HQ.I.2.2.2.2;have HZ:bN (B_ w.heap.size w ow/\ow.heap[w.heap.size+1+1]? =o_ (c_ ar 31)/\ap ow W.heap.size ({ q with ai:=acc,aK:=a,aV:=c } :af)/\w.heap.size+1+1 < W.heap.size):=⟨eX.I.1.2.2.1.trans (gy.mono eX.I.1.2.2.1.size),(gy.block _ (J2.1 eX.I.1.2.2.2).1).trans eX.I.1.2.2.2,eX.I.2.2.1.below gy,hq.2.1⟩
   clear gy hq;rw [eX.I.2.2.2] at hok;rcases hok with ⟨hok,rfl⟩ | ⟨hok,rfl⟩
   .have HN:bN (cB p.pure { p.pure with ai:=bY (·.id) (⟨z.id,z.I,z.Mf,z.max,[]⟩:dS) p.pure.ai } =o_ { p.pure with ai:=bY (·.id) (⟨z.id,z.I,z.Mf,z.max,[]⟩:dS) p.pure.ai }):=jS hok
    clear hok;go_wp2_with (refine ec _ _ #[i_ j_ q.id,i_ j_ q.next,s_ q.aN q.L8.length q.aW,s_ q.bc q.aj.length q.bF,s_ q.ay q.L9.length q.aO,s_ q.ax q.ag.length q.aP,s_ q.am q.ae.length q.aG,s_ a acc.length c] HZ.I.2.1 ?_);refine mG results77 (b_ true) HZ.I.2.1 ?_;have hl:=HZ.I.2.2.2;rw [HN.I];refine ⟨({ q with ai:=acc,aK:=a,aV:=c } :af),by rfl,(HZ.I.2.2.1.lower zo).same fun g hg=>KH _ _ _ _ ZcA,eX.I.2.2.2,q_ HZ.I.1 zo _⟩
   .exact Zb9
end
section
def vR {p:aE} {x:az} (h:p.Small) (hr:bK p=true) (hx:(Lit.int j_ x.id).wf=true/\x.text.size<=1048576):aE.Small { p with ag:=cA (·.id) x p.ag } :=by
 have h2:=((ch _).1 hr).cC;exact ⟨h.dl,h.fx,h.cD,by show (cA (·.id) x p.ag).length<=_; rw [eJ]; omega,h.cb,h.dH,h.L8,h.aj,h.L9,fun y hy=>(js.1 hy).elim (fun e=>e ▸ hx) (h.ag y),h.ae,h.ai⟩
end
end Go.Proofs.YtfncpmaefninjaaGreatDoor
