/- What the proof leans on, part 16. -/
import Derived.Test.YtckenjkcmajicaaGreatOwnF12
import Derived.Test.YtckenjkcmajicaaGreatOwnF13
set_option linter.all false
set_option maxRecDepth 100000
set_option maxHeartbeats 8000000
open Go.Proofs.Tryz
open Go renaming World->w_,Value->v_,Calls->k_,Addr->d_,TypeId->T_
open Go.Ending renaming returned->r_
open Go.IntKind renaming i64->j_
open Go.Obj renaming cells->c_
open Go.RowKit renaming Below->B_,Hid->bN
open Go.Value renaming int->i_,slice->s_,bool->b_,string->t_,agg->a_,tuple->u_
open Option renaming some->o_,none->n_
open Go renaming wp_at_succ->Kd,wp_at_zero->Kc
open Go.Proofs.Tryz renaming prog->J3
open List renaming cons_append->Qw,getElem_cons_succ->K1,getElem_cons_zero->K0,getElem_toArray->KZ,length_cons->Lg,length_nil->K4
open Option renaming map_some->J9

open Go.RowKit
namespace Go.Proofs.YtckenjkcmajicaaGreat
section
open Go.Maps
attribute [local go_sem ↓] Kc Kd
def aI.cell {w:w_} {g i:Nat} {v:v_} :aI w (w.setCell ⟨g,i,n_⟩ v) [g] :=aI.set (off:=i) [v] zy
end
section
section
variable {α:Type} {num:α->Int} {ok:α->Bool}
def bY (num:α->Int) (x:α):List α->List α
 | [] => [x]
 | y :: r=>if num x < num y then x :: y :: r else y :: bY num x r
def cA (num:α->Int) (x:α):List α->List α
 | [] => [x]
 | y :: r=>if num y < num x then y :: cA num x r else x :: y :: r
def er (x:α): ∀ l:List α,(bY num x l).length=l.length+1
 | [] =>rfl
 | y :: r=>by
  simp only [bY]
  split
  .rfl
  .simp [er x r]
def fq {x z:α} : ∀ {l:List α},z∈bY num x l↔z=x\/z∈l
 | [] =>by simp [bY]
 | y :: r=>by
  simp only [bY]
  split
  .simp
  .simp only [Kt,fq (l:=r)]
   constructor
   .exact FS
   .exact FS
def js {x z:α} : ∀ {l:List α},z∈cA num x l↔z=x\/z∈l
 | [] =>by simp [cA]
 | y :: r=>by
  simp only [cA]
  split
  .simp only [Kt,js (l:=r)]
   constructor
   .exact FS
   .exact FS
  .simp
def eJ (x:α): ∀ l:List α,(cA num x l).length=l.length+1
 | [] =>rfl
 | y :: r=>by
  simp only [cA]
  split
  .simp [eJ x r]
  .rfl
def tP {x:α} : ∀ {l:List α} {k:Nat},(∀ y∈l.take k,num y < num x)->(∀ y,l[k]? =o_ y-> ¬ num y < num x)->l.take k ++ x :: l.drop k=cA num x l
 | [],k,_,_=>by simp [cA]
 | y :: r,0,_,h2=>by
  have h3:=h2 y rfl;simp [cA,h3]
 | y :: r,k+1,h1,h2=>by
  have h3:=h1 y zy;simp only [List.take_succ_cons,List.drop_succ_cons,Qw,cA,if_pos h3];rw [tP (fun z hz=>h1 z ZcX) (fun z hz=>h2 z (by simpa using hz))]
end
def cB (p p':aE):Option aE:=if bK p && bK p' then o_ p' else n_
end
section
open Go.Maps
def cJ.lt {w:w_} {bi o:Nat} {S:aZ} (h:cJ w bi o S): ∀ c∈o :: (S.boxes ++ S.kids),c < w.heap.size:=fun c hc=>by
 simp only [aZ.boxes,aZ.kids,Kt,Kg] at hc;rcases hc with rfl | ((hc | hc | hc | hc | hc | hc) | hc | hc | hc)
 .exact (J2.1 h.opn).1
 .exact h.L8.lt c (Kt.2 hc)
 .exact h.aj.lt c (Kt.2 hc)
 .exact h.L9.lt c (Kt.2 hc)
 .exact h.ag.lt c (Kt.2 hc)
 .exact h.ae.lt c (Kt.2 hc)
 .exact h.ai.lt c (Kt.2 hc)
 .obtain ⟨r,hr,hk⟩:=Lq.1 hc
  exact ((h.eI r hr).lt hk).2
 .obtain ⟨r,hr,hk⟩:=Lq.1 hc
  exact ((h.eE r hr).lt hk).2
 .obtain ⟨r,hr,hk⟩:=Lq.1 hc
  exact ((h.eR r hr).lt hk).2
def cJ.drew {w:w_} {bi o:Nat} {S:aZ} (h:cJ w bi o S):cJ w.drew bi o S:=
 ⟨h.opn,h.L8.same fun _ _=>rfl,h.aj.same fun _ _=>rfl,h.L9.same fun _ _=>rfl,h.ag.same fun _ _=>rfl,h.ae.same fun _ _=>rfl,h.ai.same fun _ _=>rfl,fun p hp=>(h.eI p hp).same fun _ _=>rfl,fun p hp=>(h.eE p hp).same fun _ _=>rfl,fun p hp=>(h.eR p hp).same fun _ _=>rfl,h.nodup,h.low⟩
def ld (w:w_) (a:Option d_) (xs:List v_):Prop:= ∀ j u,xs[j]? =o_ u-> ∃ ad,a=o_ ad/\w.cell? (ad.add j)=o_ u
def ld.nil {w:w_} {a:Option d_} :ld w a [] :=fun j u hu=>by cases hu
def ld.none {w:w_} {xs:List v_} (h:ld w n_ xs):xs= [] :=by
 cases xs with
 | nil=>rfl
 | cons u r=>
  obtain ⟨ad,e,_⟩:=h 0 u rfl;cases e
def jD {P:Program} (w:w_) (bi:Nat) (t ty e:T_) (i:TypeInfo) (z:v_) (size bytes:Nat) (ht:P.underlying t=o_ (.slice e)) (hi:P.info? e=o_ i) (hz:i.zero=o_ z)
  (hsize:i.size=size) (hby:i.bytes=bytes) (hzs:z.cells.size=size) (hsz:0 < size) (a0:Option d_) (n0 c0:Nat) (ys:List v_) (ho:w.ownsRow bi e size (s_ a0 n0 c0) n0 ys)
  (a:Option d_) (n cap:Nat) (xs:List v_) (h:ld w a xs) (hl:xs.length=n * size) (h1: ∀ u∈xs,u.oneCell'=true) (h63:n0+n<=4000000) (hb:bytes<=1000) (lY:bi<=w.heap.size):
  ∃ a' cap' w',(Builtin.append_ #[t,t] ty #[s_ a0 n0 c0,s_ a n cap]).run P w= .ok (s_ a' (n0+n) cap') w'/\w'.ownsRow bi e size (s_ a' (n0+n) cap') (n0+n) (ys ++ xs)/\w.grownBy w' (Value.slice a0 n0 c0).ownBlock/\ ∀ g∈blk a',g∈blk a0\/g=w.heap.size:=by
 cases a with
 | none=>
  have hx:=h.none;subst hx;have hn:n=0:=by
   cases n with
   | zero=>rfl
   | succ n=>simp only [K4,Lh] at hl; omega
  subst hn;refine ⟨a0,c0,w,?_,by simpa using ho,⟨rfl,rfl,rfl,Ki _,fun _ _ _=>rfl⟩,fun g hg=> .inl hg⟩;have hc:n0<=c0:=by
   obtain ⟨-,⟨e1,e2⟩ | ⟨g,c,cur,e1,-,-,h5,-⟩⟩:=ho
   .cases e1; exact Ki _
   .cases e1; exact h5
  cases a0 <;> simp [Builtin.append_,run_underlying ht,sizeOf,typeInfo,hi,Builtin.lenOf,Builtin.firstCells,storeCells,hc]
 | some ad=>
  have hnews: ∀ j u,xs[j]? =o_ u->w.cell? (ad.add j)=o_ u:=fun j u hu=>by
   obtain ⟨ad',e',hc⟩:=h j u hu;cases e';exact hc
  obtain ⟨v',w',hr,ho',hgr,-,hbl⟩:=run_append_own_at (P:=P) w bi t ty e i z size bytes ht hi hz hsize hby hzs hsz (s_ a0 n0 c0) n0 ys ho ad n cap xs hl hnews h1 Zb9 (by have:=Nat.mul_le_mul h63 hb; omega) lY;obtain ⟨a',cap',rfl,-⟩:=cr ho';refine ⟨a',cap',w',hr,ho',hgr,fun g hg=> ?_⟩;rw [fZ] at hg ⊢;cases a' with
  | none=>cases hg
  | some ad'=>
   simp only [J9,LF] at hg;subst hg;rcases hbl with hbl | hbl
   .refine .inl ?_
    cases a0 with
    | none=>cases hbl
    | some ad0=>simpa [Value.ownBlock] using hbl.symm
   .exact .inr ZcJ
def qv {Z A A' R:List Nat} (h:(Z ++ (A ++ R)).Nodup) (hA:A'.Nodup) (h1: ∀ g∈A',g∉Z ++ (A ++ R)):(Z ++ (A' ++ R)).Nodup:=by
 simp only [Kg,not_or] at h1;simp only [Kf,Kg] at h ⊢;obtain ⟨hz,⟨-,hR,-⟩,hzz⟩:=h;refine ⟨hz,⟨hA,hR,fun a ha b hb e=>(h1 a ha).2.2 (e ▸ hb)⟩,fun a ha b hb e=> ?_⟩;rcases hb with hb | hb
 .exact (h1 b hb).1 (e ▸ ha)
 .exact hzz a ha b (.inr hb) e
def Hj (g m j:Nat):(⟨g,m,n_⟩:d_).add j=⟨g,m+j,n_⟩:=by unfold Addr.add; split <;> simp_all
def FH {α:Type} {K:Kind α} {w:w_} {a:Option d_} {l:List α} (k:Nat) (h:Row w a (K.flat l)):ld w (a.map (·.add (k * K.n))) (K.flat (l.drop k)):=fun j u hu=>by
 by_cases hk:k<=l.length
 .have e:K.flat l=K.flat (l.take k) ++ K.flat (l.drop k):=by rw [<- K.dc,Qn]
  have hl:(K.flat (l.take k)).length=k * K.n:=by rw [K.dM,Lk,Nat.min_eq_left hk]
  have hu2:(K.flat l)[k * K.n+j]? =o_ u:=by
   rw [e,Qo zw,hl,Nat.add_sub_cancel_left];exact hu
  obtain ⟨g,rfl,hc⟩:=h _ u hu2;exact ⟨⟨g,k * K.n,n_⟩,by rw [J9,qZ],by rw [Hj]; exact hc⟩
 .rw [List.drop_eq_nil_of_le zw] at hu
  cases hu
def IS {w:w_} {a:Option d_} {xs:List v_} (h:Row w a xs):ld w a xs:=fun j u hu=>by
 obtain ⟨g,rfl,hc⟩:=h j u hu;exact ⟨_,rfl,by rw [qZ]; exact hc⟩
def uM {α:Type} {K:Kind α} {w:w_} {a:Option d_} {l:List α} (k:Nat) (h:Row w a (K.flat l)):ld w a (K.flat (l.take k)):=fun j u hu=>by
 have e:K.flat l=K.flat (l.take k) ++ K.flat (l.drop k):=by rw [<- K.dc,Qn]
 have hu2:(K.flat l)[j]? =o_ u:=by
  rw [e,Qp (Lj.1 hu).1];exact hu
 exact IS h j u hu2
def nV {w:w_} {bi size n c:Nat} {e:T_} {a:Option d_} {xs:List v_} (h:w.ownsRow bi e size (s_ a n c) n xs):n<=c:=by
 obtain ⟨-,⟨e1,e2⟩ | ⟨g,c',cur,e1,-,-,h5,-⟩⟩:=h
 .cases e1; exact Ki _
 .cases e1; exact h5
def jO {w:w_} {g:Nat} {cs:Array v_} {t:T_} {aaO:Nat × Nat} (h:w.heap[g]? =o_ (c_ cs t aaO)):ld w (o_ ⟨g,0,n_⟩) cs.toList:=fun j u hu=>⟨_,rfl,by rw [qZ]; simp only [World.cell?,h]; simpa using hu⟩
def ja {w:w_} {o i:Nat} {v:v_} :(w.setCell ⟨o,i,n_⟩ v).heap.size=w.heap.size:=fH [v]
def qK {α:Type} {K:Kind α} {w:w_} {a:Option d_} {l:List α} {k c:Nat} (hk:l.length<=c) (h:Row w a (K.flat l)):ld w (if c=k then a else Option.map (fun x=>x.add (k * K.n)) a) (K.flat (l.drop k)):=by
 split
 .rw [List.drop_eq_nil_of_le zw]
  exact ld.nil
 .exact FH k h
def jS {p p':aE} (h:(bK p && bK p')=true):cB p p'=o_ p':=if_pos h
def jh {p p':aE} (h:(bK p && bK p')=false):cB p p'=n_:=if_neg (by rw [h]; decide)
def zm {α:Type} (num:α->Int) (id:Int) (l:List α) (k:Nat):(∃ x,l[k]? =o_ x/\num x < id/\k < l.length)\/(∃ x,l[k]? =o_ x/\ ¬ num x < id/\k < l.length)\/ ¬ k < l.length:=by
 by_cases h:k < l.length
 .by_cases h2:num l[k] < id
  .exact .inl ⟨_,Kz h,h2,h⟩
  .exact .inr (.inl ⟨_,Kz h,h2,h⟩)
 .exact .inr (.inr h)
structure yr (w:w_) (bi:Nat) (q q2:af) (W:w_):Prop where
 own:ap W bi q2
 kept:aI w W q.Mc
 far: ∀ g∈q2.Mc,g∈q.Mc\/w.heap.size<=g
def rn {α:Type} {K:Kind α} {T:T_} {w:w_} {bi cap n gs j:Nat} {a:Option d_} {l:List α} {x y:α} {v:v_} (h:w.ownsRow bi T K.n (s_ a l.length cap) l.length (K.flat l)) (hx:l[n]? =o_ x) (ha:a=o_ ⟨gs,0,n_⟩) (hj:j < K.n) (hv:K.vals y=(K.vals x).set j v):
  (w.setCell ⟨gs,n * K.n+j,n_⟩ v).ownsRow bi T K.n (s_ a l.length cap) l.length (K.flat (l.set n y))/\aI w (w.setCell ⟨gs,n * K.n+j,n_⟩ v) (blk a)/\(∃ u,w.cell? ⟨gs,n * K.n+j,n_⟩=o_ u)/\w.frozen? ⟨gs,n * K.n+j,n_⟩=false:=by
 have hn:n < l.length:=(Lj.1 hx).1;obtain ⟨g,hg,hrow⟩:=bl.fX (K:=K) h zw;rw [ha] at hg;cases hg;have h7:=hrow.cell hx (r:=j) hj;have hsp:=kL hx;have hset:l.set n y=l.take n ++ y :: l.drop (n+1):=by rw [RJ,if_pos hn]
 have hl:(l.take n).length=n:=by rw [Lk]; omega
 rw [hsp] at hrow;have h5:=bl.part (K:=K) (x:=x) (y:=y) (j:=j) (vs:= [v]) hrow ZbZ (fun r hr=>by simp at hr; subst hr; rw [Nat.add_zero,hv,LU (by rw [K.len]; exact hj)]; rfl) (fun r hr hn=>by rw [hv,List.getElem?_set_ne (by simp at hn; omega)]);rw [hl,<- hset] at h5;have h6:=h5.owns;rw [LI] at h6;rw [ha];exact ⟨h6,aI.set (vs:= [v]) (by simp [blk]),⟨_,h7.1.trans (Kz (by rw [K.len]; exact hj))⟩,h7.2⟩
def uX {P1 P2:List Nat} {a b:Option Nat} (h:(P1 ++ (a.toList ++ P2)).Nodup) (hb: ∀ g,b=o_ g->g∉P1/\g∉P2):(P1 ++ (b.toList ++ P2)).Nodup:=by
 obtain ⟨h1,h2,h3⟩:=Kf.1 h;obtain ⟨-,h5,-⟩:=Kf.1 h2;refine Kf.2 ⟨h1,Kf.2 ⟨by cases b <;> simp,h5,fun x hx y hy e=> ?_⟩,fun x hx y hy e=> ?_⟩
 .cases b with
  | none=>simp at hx
  | some g=>simp at hx; subst hx; exact (hb x rfl).2 (e ▸ hy)
 .rcases Kg.1 hy with hy | hy
  .cases b with
   | none=>simp at hy
   | some g=>simp at hy; subst hy; exact (hb y rfl).1 (e ▸ hx)
  .exact h3 x hx y (Ly _ hy) e
def ou (w:w_) (bi:Nat) (a0:Option d_) (c0:Nat) (l0:List ByteArray) (ho:w.ownsRow bi 9 1 (s_ a0 l0.length c0) l0.length (bT.flat l0)) (a:Option d_) (l:List ByteArray) (cap:Nat) (h:ld w a (bT.flat l)) (hl:l0.length+l.length<=4000000) (lY:bi<=w.heap.size):
  ∃ a' cap' w',(Builtin.append_ #[49,49] 49 #[s_ a0 l0.length c0,s_ a l.length cap]).run J3 w= .ok (s_ a' (l0.length+l.length) cap') w'/\w'.ownsRow bi 9 1 (s_ a' (l0.length+l.length) cap') (l0.length+l.length) (bT.flat (l0 ++ l))/\w.grownBy w' (Value.slice a0 l0.length c0).ownBlock/\ ∀ g∈blk a',g∈blk a0\/g=w.heap.size:=by
 obtain ⟨i,hi,e⟩:=Kw.1 zD;simp only [Kx] at e;rw [bT.dc];exact jD w bi _ _ 9 i _ 1 16 underlying49 hi e.1 e.2.1 e.2.2 rfl (by decide) a0 l0.length c0 _ ho a l.length cap _ h (bT.dM l) yK hl (by decide) lY
def IN (w:w_) (s:ByteArray):(w.alloc (c_ #[t_ s] 9)).ownsRow w.heap.size 9 1 (s_ (o_ ⟨w.heap.size,0,n_⟩) [s].length 1) [s].length (bT.flat [s]):=
 ⟨rfl,.inr ⟨w.heap.size,1,#[t_ s],rfl,Ki _,Kj _ _,Ki _,by decide,rfl,rfl⟩⟩
def vg {w:w_} {a:Option d_} {l:List ByteArray} {c:Nat} (hk:l.length<=c) (h:Row w a (bT.flat l)):ld w (if c=1 then a else Option.map (fun x:d_=>⟨x.block,x.off+1,n_⟩) a) (bT.flat (l.drop 1)):=by
 have h1:=qK (K:=bT) (k:=1) hk h;have e:(fun x:d_=>x.add (1 * bT.n))=(fun x:d_=>⟨x.block,x.off+1,n_⟩):=by funext x; rfl
 rw [e] at h1;exact h1
def aI.grown {w w5 w7:w_} {a:Option d_} {n c:Nat} (hb:B_ w.heap.size w w5) (hg:w5.grownBy w7 (Value.slice a n c).ownBlock):aI w w7 (blk a):=
 ⟨hg.os.trans hb.os,hg.tape.trans hb.tape,hg.output.trans hb.output,LG hb.size hg.size,fun g h1 h2=>(hg.block g (Kn h1 hb.size) fun e=>h2 (di e.symm)).trans (hb.block g h1)⟩
section
variable {w W:w_} {bi n gs:Nat} {q:af}
def pg {x:aM} {l:List ByteArray} {a:Option d_} {c:Nat} (h:ap w bi q) (hb:aI w W (blk x.ak)) (hx:q.ai[n]? =o_ x) (ha:q.aK=o_ ⟨gs,0,n_⟩) (ho:W.ownsRow bi 9 1 (s_ a l.length c) l.length (bT.flat l)) (hf: ∀ g∈blk a,g∈blk x.ak\/w.heap.size<=g):
  yr w bi q ({ q with ai:=q.ai.set n { x with Ma:=l,ak:=a,aq:=c } } :af) (W.setCell ⟨gs,n * 5+4,n_⟩ (s_ a l.length c))/\(∃ u,W.cell? ⟨gs,n * 5+4,n_⟩=o_ u)/\W.frozen? ⟨gs,n * 5+4,n_⟩=false:=by
 have hn:n < q.ai.length:=(Lj.1 hx).1;have hset:q.ai.set n { x with Ma:=l,ak:=a,aq:=c } =q.ai.take n ++ { x with Ma:=l,ak:=a,aq:=c } :: q.ai.drop (n+1):=by rw [RJ,if_pos hn]
 have hk: ∀ (z:aM) (A B:List aM),(A ++ z :: B).filterMap aU.bt=A.filterMap aU.bt ++ ((aU.bt z).toList ++ B.filterMap aU.bt):=fun z A B=>by
  rw [LW,List.filterMap_cons];cases aU.bt z <;> simp
 have h6:q.ai.filterMap aU.bt=(q.ai.take n).filterMap aU.bt ++ ((aU.bt x).toList ++ (q.ai.drop (n+1)).filterMap aU.bt):=(congrArg (List.filterMap aU.bt) (kL hx)).trans (hk _ _ _);obtain ⟨P1,uZ⟩: ∃ P1,P1=blk q.aN ++ (q.L8.filterMap aR.bt ++ (blk q.bc ++ (blk q.ay ++ (blk q.ax ++ (blk q.am ++ (q.ae.filterMap aC.bt ++ blk q.aK)))))) ++ (q.ai.take n).filterMap aU.bt:=⟨_,rfl⟩
 obtain ⟨P2,IQ⟩: ∃ P2,P2=(q.ai.drop (n+1)).filterMap aU.bt:=⟨_,rfl⟩
 have e1:q.Mc=P1 ++ ((aU.bt x).toList ++ P2):=by rw [uZ,IQ]; simp only [af.Mc,h6,Lm]
 have e2:({ q with ai:=q.ai.set n { x with Ma:=l,ak:=a,aq:=c } } :af).Mc=P1 ++ ((a.map (·.block)).toList ++ P2):=by
  rw [uZ,IQ];simp only [af.Mc,hset,hk,Lm];rfl
 have hkx: ∀ g,g∈blk x.ak↔g∈(aU.bt x).toList:=fun g=>Iff.rfl
 have Dl:=h.nodup;rw [e1] at Dl;have hP: ∀ g,g∈P1\/g∈P2->g∉blk x.ak:=fun g hg hm=>by
  exact Zap
 have hin: ∀ g,g∈P1\/g∈P2->g∈q.Mc:=fun g hg=>by
  exact ZaO
 have hgl:gs∈blk q.aK:=by rw [ha]; simp [blk]
 have hgP:gs∈P1:=by rw [uZ]; simp [hgl]
 have hsW: ∀ g,g∈P1\/g∈P2->W.heap[g]? =w.heap[g]? :=fun g hg=>hb.same g (h.lt g (hin g hg)).2 (hP g hg)
 have hrow:=aL h.ai fun g hg=>hsW g (.inl Zcf)
 obtain ⟨h1,h2,h3⟩:=rn (K:=bX) (y:= { x with Ma:=l,ak:=a,aq:=c }) (v:=s_ a l.length c) hrow hx ha (show 4 < 5 by decide) rfl;refine ⟨?_,h3⟩;have hnd:({ q with ai:=q.ai.set n { x with Ma:=l,ak:=a,aq:=c } } :af).Mc.Nodup:=by
  exact Q_
 have hs: ∀ g,g≠gs->(W.setCell ⟨gs,n * 5+4,n_⟩ (s_ a l.length c)).heap[g]? =W.heap[g]? :=fun g hg=>aH hg
 have hsp:q.Mc=(blk q.aN ++ (q.L8.filterMap aR.bt ++ (blk q.bc ++ (blk q.ay ++ (blk q.ax ++ (blk q.am ++ q.ae.filterMap aC.bt)))))) ++ (blk q.aK ++ (q.ai.filterMap aU.bt)):=by simp [af.Mc,Lm]
 have nw: ∀ g,(g∈(blk q.aN ++ (q.L8.filterMap aR.bt ++ (blk q.bc ++ (blk q.ay ++ (blk q.ax ++ (blk q.am ++ q.ae.filterMap aC.bt))))))\/g∈(q.ai.filterMap aU.bt))->g≠gs:=fun g hg he=>by
  exact Zai
 have hall: ∀ g,g∈P1\/g∈P2->g≠gs->(W.setCell ⟨gs,n * 5+4,n_⟩ (s_ a l.length c)).heap[g]? =w.heap[g]? :=fun g hg hne=>(hs g hne).trans (hsW g hg)
 refine ⟨⟨aL h.L8 fun g hg=>hall g (.inl Zcf) (nw g (.inl Zct)),aL h.aj fun g hg=>hall g (.inl Zcf) (nw g (.inl Zct)),aL h.L9 fun g hg=>hall g (.inl Zcf) (nw g (.inl Zct)),aL h.ag fun g hg=>hall g (.inl Zcf) (nw g (.inl Zct)),aL h.ae fun g hg=>hall g (.inl Zcf) (nw g (.inl Zct)),Zco,fun z hz=>(h.eI z hz).same fun g hg=>hall g (.inl ZcH) (nw g (.inl ZcW)),?_,?_,hnd⟩,⟨hb.os,hb.tape,hb.output,by rw [ja]; exact hb.size,fun g hg hm=>(hs g fun e=>hm (e ▸ hin gs (.inl hgP))).trans (hb.same g hg fun hx=>hm ZcR)⟩,fun g hg=> ?_⟩
 .intro z hz
  exact (h.eE z hz).same fun g hg=>hall g (.inl (by rw [uZ]; simp only [Kg]; exact .inl (.inr (.inr (.inr (.inr (.inr (.inr (.inl (dP.2 ⟨z,hz,hg⟩)))))))))) (nw g (.inl (by simp only [Kg]; exact .inr (.inr (.inr (.inr (.inr (.inr (dP.2 ⟨z,hz,hg⟩)))))))))
 .intro z hz
  rw [hset] at hz;rcases Kg.1 hz with hz | hz
  .exact (h.eR z (RK hz)).same fun g hg=>hall g (.inl (by rw [uZ]; exact Ly _ (dP.2 ⟨z,hz,hg⟩))) (nw g (.inr (by exact dP.2 ⟨z,RK hz,hg⟩)))
  .rcases Kt.1 hz with rfl | hz
   .exact W_
   .exact (h.eR z (RL hz)).same fun g hg=>hall g (.inr (by rw [IQ]; exact dP.2 ⟨z,hz,hg⟩)) (nw g (.inr (by exact dP.2 ⟨z,RL hz,hg⟩)))
 .exact WP
end
end
section
def nX {p:aE} {x:ci} (h:p.Small) (hr:bK p=true) (hx:(Lit.int j_ x.id).wf=true/\x.Ma.length<=1048576/\ ∀ s∈x.Ma,s.size<=1048576):aE.Small { p with ae:=bY (·.id) x p.ae } :=by
 have h2:=((ch _).1 hr).cb;exact ⟨h.dl,h.fx,h.cD,h.cC,by show (bY (·.id) x p.ae).length<=_; rw [er]; omega,h.dH,h.L8,h.aj,h.L9,h.ag,fun y hy=>(fq.1 hy).elim (fun e=>e ▸ hx) (h.ae y),h.ai⟩
end
section
open Go.Maps
attribute [local go_sem ↓] Kc Kd
def fi (p q:af) (w:w_) (hp:p.Fit/\(∀ x∈p.L8,x.dX)/\af.At w p) (hq:bK p.pure=true->q.Fit/\(∀ x∈q.L8,x.dX)/\af.At w q):
  k_ J3 135 #[a_ p.cells,a_ q.cells] w fun e w'=>B_ w.heap.size w w'/\(((bK p.pure && bK q.pure)=true/\e=r_ (u_ #[a_ q.cells,b_ true]))\/((bK p.pure && bK q.pure)=false/\e=r_ (u_ #[a_ ar,b_ false]))):=by
 have HB:bN (B_ w.heap.size w (((w.alloc (c_ p.row 46)).alloc (c_ q.row 46)).alloc (c_ ar 46))/\av (((w.alloc (c_ p.row 46)).alloc (c_ q.row 46)).alloc (c_ ar 46)) w.heap.size p/\av (((w.alloc (c_ p.row 46)).alloc (c_ q.row 46)).alloc (c_ ar 46)) (w.heap.size+1) q/\(((w.alloc (c_ p.row 46)).alloc (c_ q.row 46)).alloc (c_ ar 46)).heap[w.heap.size+2]? =o_ (c_ ar 46)):=by
  refine ⟨(((Kp _ _).alloc (Ki _) _).alloc zy _).alloc ZbZ _,?_,?_,?_⟩
  .exact (PU ZbZ).trans ((PU zy).trans (Kj _ _))
  .exact (PU zy).trans (by simpa using Kj (w.alloc (c_ p.row 46)) _)
  .simpa using Kj ((w.alloc (c_ p.row 46)).alloc (c_ q.row 46)) _
 have HP:bN (p.Fit/\(∀ x∈p.L8,x.dX)/\af.At w p):=hp;have HQ:bN (bK p.pure=true->q.Fit/\(∀ x∈q.L8,x.dX)/\af.At w q):=hq;clear hp hq;obtain ⟨m0,m1,m2,m3,m4,m5,m6,m7⟩:=HB.I.2.1.cells;obtain ⟨k0,k1,k2,k3,k4,k5,k6,k7⟩:=HB.I.2.2.1.cells;unfold af.cells
 go_enter func135,ntmps135
 go_wp2_with fail;generalize ((w.alloc (c_ p.row 46)).alloc (c_ q.row 46)).alloc (c_ ar 46)=W at *;clear m0 m1 m2 m3 m4 m5 m6 m7 k0 k1 k2 k3 k4 k5 k6 k7;refine (eV p W HP.I.1 HP.I.2.1 (HP.I.2.2.below HB.I.1)).mono ?_;rintro e W1 ⟨rfl,hb⟩;replace HB:bN (B_ w.heap.size w W1/\av W1 w.heap.size p/\av W1 (w.heap.size+1) q/\W1.heap[w.heap.size+2]? =o_ (c_ ar 46)):=⟨HB.I.1.trans (hb.mono HB.I.1.size),HB.I.2.1.below hb,HB.I.2.2.1.below hb,(hb.block _ (J2.1 HB.I.2.2.2).1).trans HB.I.2.2.2⟩
 clear hb;obtain ⟨k0,k1,k2,k3,k4,k5,k6,k7⟩:=HB.I.2.2.1.cells;cases h4:bK p.pure
 .have H4:bN (bK p.pure=false):=h4
  clear h4;go_wp2_with (refine ec _ _ ar HB.I.2.2.2 ?_);refine mG results135 (b_ false) HB.I.2.2.2 ?_;exact ⟨kz HB.I.1 zw _,.inr ⟨by rw [H4.I]; rfl,rfl⟩⟩
 have H4:bN (bK p.pure=true):=h4;clear h4;go_wp2_with fail;clear k0 k1 k2 k3 k4 k5 k6 k7;refine (eV q W1 (HQ.I H4.I).1 (HQ.I H4.I).2.1 ((HQ.I H4.I).2.2.below HB.I.1)).mono ?_;rintro e W2 ⟨rfl,hb⟩;replace HB:bN (B_ w.heap.size w W2/\av W2 w.heap.size p/\av W2 (w.heap.size+1) q/\W2.heap[w.heap.size+2]? =o_ (c_ ar 46)):=⟨HB.I.1.trans (hb.mono HB.I.1.size),HB.I.2.1.below hb,HB.I.2.2.1.below hb,(hb.block _ (J2.1 HB.I.2.2.2).1).trans HB.I.2.2.2⟩
 clear hb;obtain ⟨k0,k1,k2,k3,k4,k5,k6,k7⟩:=HB.I.2.2.1.cells;cases h5:bK q.pure
 .have H5:bN (bK q.pure=false):=h5
  clear h5;go_wp2_with (refine ec _ _ ar HB.I.2.2.2 ?_);refine mG results135 (b_ false) HB.I.2.2.2 ?_;exact ⟨kz HB.I.1 zw _,.inr ⟨by rw [H4.I,H5.I]; rfl,rfl⟩⟩
 have H5:bN (bK q.pure=true):=h5;clear h5;go_wp2_with (refine ec _ _ q.row HB.I.2.2.2 ?_);refine mG results135 (b_ true) HB.I.2.2.2 ?_;exact ⟨kz HB.I.1 zw _,.inl ⟨by rw [H4.I,H5.I]; rfl,rfl⟩⟩
end
section
open Go.Maps
section
variable {α:Type} {num:α->Int}
def rF {β:Type} {je:β->Int} (f:α->β) (hf: ∀ y,je (f y)=num y) (x:α): ∀ l:List α,(bY num x l).map f=bY je (f x) (l.map f)
 | [] =>rfl
 | y :: r=>by
  simp only [bY,Lt,hf]
  split
  .simp
  .simp [rF f hf x r]
def AL {x:α} : ∀ {l:List α},(∀ y∈l,¬ num x < num y)->bY num x l=l ++ [x]
 | [],_=>rfl
 | y :: r,h=>by
  simp only [bY,if_neg (h y zy),Qw];rw [AL fun z hz=>h z ZcX]
def xv {x:α} : ∀ {l r:List α},(∃ y∈l,num x < num y)->bY num x (l ++ r)=bY num x l ++ r
 | [],_,h=>by obtain ⟨y,hy,_⟩:=h; cases hy
 | y :: l,r,h=>by
  simp only [Qw,bY]
  split
  .rfl
  .rename_i hn
   rw [xv,Qw];obtain ⟨z,hz,hlt⟩:=h;rcases Kt.1 hz with rfl | hz
   .exact absurd hlt hn
   .exact ⟨z,hz,hlt⟩
def Cp {x y:α} {l:List α} (h: ∀ z∈l,¬ num x < num z) (hy:num x < num y):bY num x (l ++ [y])=l ++ [x] ++ [y] :=by
 induction l with
 | nil=>simp [bY,hy]
 | cons z r ih=>
  simp only [Qw,bY,if_neg (h z zy)];rw [ih fun u hu=>h u (by simp [hu])]
def pz (x:α): ∀ l:List α,(bY num x l).Perm (x :: l)
 | [] =>RA _
 | y :: r=>by
  simp only [bY]
  split
  .exact RA _
  .exact (List.Perm.cons y (pz x r)).trans (List.Perm.swap x y r)
def gY (num:α->Int) (x:α) (l:List α) (k:Nat) (dn:Bool) (acc:List α):Prop:=
 (dn=false/\acc=l.take k/\ ∀ y∈l.take k,¬ num x < num y)\/(dn=true/\acc=bY num x (l.take k)/\ ∃ y∈l.take k,num x < num y)
def gY.start (x:α) (l:List α):gY num x l 0 false [] := .inl ⟨rfl,by simp,fun y hy=>by simp at hy⟩
def gY.on {x y:α} {l:List α} {k:Nat} {acc:List α} (h:gY num x l k true acc) (hy:l[k]? =o_ y):gY num x l (k+1) true (acc ++ [y]):=by
 rcases h with ⟨h,-⟩ | ⟨-,rfl,z,hz,hlt⟩
 .cases h
 .rw [gY,cj hy]
  exact .inr ⟨rfl,(xv ⟨z,hz,hlt⟩).symm,z,Lz _ hz,hlt⟩
def gY.past {x y:α} {l:List α} {k:Nat} {acc:List α} (h:gY num x l k false acc) (hy:l[k]? =o_ y) (hn: ¬ num x < num y):gY num x l (k+1) false (acc ++ [y]):=by
 rcases h with ⟨-,rfl,h⟩ | ⟨h,-⟩
 .rw [gY,cj hy]
  refine .inl ⟨rfl,rfl,fun z hz=> ?_⟩;rcases Kg.1 hz with hz | hz
  .exact h z hz
  .rw [KB.1 hz]; exact hn
 .cases h
def gY.here {x y:α} {l:List α} {k:Nat} {acc:List α} (h:gY num x l k false acc) (hy:l[k]? =o_ y) (hn:num x < num y):gY num x l (k+1) true (acc ++ [x] ++ [y]):=by
 rcases h with ⟨-,rfl,h⟩ | ⟨h,-⟩
 .rw [gY,cj hy]
  exact .inr ⟨rfl,(Cp h hn).symm,y,by simp,hn⟩
 .cases h
def gY.done {x:α} {l:List α} {k:Nat} {acc:List α} (h:gY num x l k true acc) (hk: ¬ k < l.length):acc=bY num x l:=by
 rcases h with ⟨h,-⟩ | ⟨-,rfl,-⟩
 .cases h
 .rw [KF zw]
def gY.last {x:α} {l:List α} {k:Nat} {acc:List α} (h:gY num x l k false acc) (hk: ¬ k < l.length):acc ++ [x] =bY num x l:=by
 rcases h with ⟨-,rfl,h⟩ | ⟨h,-⟩
 .rw [KF zw] at h ⊢
  exact (AL h).symm
 .cases h
def gY.le {x:α} {l:List α} {k:Nat} {dn:Bool} {acc:List α} (h:gY num x l k dn acc):acc.length<=l.length+1:=by
 rcases h with ⟨-,rfl,-⟩ | ⟨-,rfl,-⟩
 .rw [Lk]; omega
 .rw [er,Lk]; omega
end
structure fy {α:Type} (K:Kind α) (T:T_) (t8:Array v_) (W w:w_) (acc:List α) (a:Option d_) (c:Nat):Prop where
 own:w.ownsRow W.heap.size T K.n (s_ a acc.length c) acc.length (K.flat acc)
 ne: ∀ g∈blk a,g≠W.heap.size+1
 cd:B_ W.heap.size W w
 box:w.heap[W.heap.size+1]? =o_ (c_ t8 T)
def fy.start {α:Type} {K:Kind α} {T:T_} {t8:Array v_} {W:w_} :fy K T t8 W ((W.alloc (c_ #[] T)).alloc (c_ t8 T)) [] (o_ ⟨W.heap.size,0,n_⟩) 0:=by
 have b1:B_ W.heap.size W (W.alloc (c_ #[] T)):=(Kp _ _).alloc (Ki _) _;refine ⟨i6 ((PU zy).trans (Kj _ _)) (Ki _),fun g hg=>by simp [blk] at hg; omega,b1.alloc b1.size _,Kq _ _ _⟩
def fy.add {α:Type} {K:Kind α} {T:T_} {t8:Array v_} {W w:w_} {acc:List α} {a:Option d_} {c:Nat} (h:fy K T t8 W w acc a c) (t:T_) (bytes:Nat) {z0:v_} {P:Program} (ht:P.underlying t=o_ (.slice T))
  (hi:(P.info? T).map (fun i=>(i.zero,i.size,i.bytes))=o_ (o_ z0,K.n,bytes)) (hz:z0.cells.size=K.n) (hn:0 < K.n) (hby:bytes<=1000) (z:α) (zs:Array v_) (hzs:zs.toList=K.vals z) (h1: ∀ u∈K.vals z,u.oneCell'=true) (hl:acc.length<=2000000):
  ∃ a' c' w',(Builtin.append_ #[t,t] t #[s_ a acc.length c,s_ (o_ ⟨w.heap.size,0,n_⟩) 1 1]).run P (w.alloc (c_ zs T))= .ok (s_ a' (acc.length+1) c') w'/\fy K T t8 W w' (acc ++ [z]) a' c':=by
 obtain ⟨i,hi,e⟩:=Kw.1 hi;simp only [Kx] at e;have b1:B_ w.heap.size w (w.alloc (c_ zs T)):=(Kp _ _).alloc (Ki _) _;have b2:=h.cd.trans (b1.mono h.cd.size);have hlt:=(J2.1 h.box).1;obtain ⟨a',c',w',hr,ho,hg,hq⟩:=jD (P:=P) (w.alloc (c_ zs T)) W.heap.size t t T i z0 K.n bytes ht hi e.1 e.2.1 e.2.2 hz hn a acc.length c _ (cR h.own b1) (o_ ⟨w.heap.size,0,n_⟩) 1 1 (K.vals z) (by rw [<- hzs]; exact jO (Kj _ _)) (by rw [K.len,Nat.one_mul]) h1 zw hby b2.size;refine ⟨a',c',w',hr,⟨?_,fun g hg2=> ?_,b2.grown hg b2.size fun k e=>(cf h.own (di e)).1,?_⟩⟩
 .exact ZaP
 .rcases hq g hg2 with h5 | h5
  .exact h.ne g h5
  .rw [h5]; have:=b1.size; omega
 .refine (hg.block _ ZbZ (fun e=> ?_)).trans ((b1.block _ hlt).trans h.box)
  exact h.ne _ (di e.symm) rfl
def oS {Z A A' C C' R:List Nat} (h:(Z ++ (A ++ (C ++ R))).Nodup) (hA:A'.Nodup) (hC:C'.Nodup) (h1: ∀ g∈A',g∉Z ++ (A ++ (C ++ R))/\g∉C') (h2: ∀ g∈C',g∈C\/g∉Z ++ (A ++ (C ++ R))):(Z ++ (A' ++ (C' ++ R))).Nodup:=by
 simp only [Kg,not_or] at h1 h2;simp only [Kf,Kg] at h ⊢;obtain ⟨hz,⟨-,⟨-,hR,hCR⟩,-⟩,hzz⟩:=h;refine ⟨hz,⟨hA,⟨hC,hR,fun a ha b hb e=> ?_⟩,fun a ha b hb e=> ?_⟩,fun a ha b hb e=> ?_⟩
 .rcases h2 a ha with h5 | h5
  .exact hCR a h5 b hb e
  .exact h5.2.2.2 (e ▸ hb)
 .rcases hb with hb | hb
  .exact (h1 a ha).2 (e ▸ hb)
  .exact (h1 a ha).1.2.2.2 (e ▸ hb)
 .rcases hb with hb | hb | hb
  .exact (h1 b hb).1.1 (e ▸ ha)
  .rcases h2 b hb with h5 | h5
   .exact hzz a ha b (.inr (.inl h5)) e
   .exact h5.1 (e ▸ ha)
  .exact hzz a ha b (.inr (.inr hb)) e
def rB {x:ao} : ∀ u∈bg.vals x,u.oneCell'=true:=fun u hu=>by
 simp only [bg,qN,Kt,Ku,or_false] at hu;rcases hu with rfl | rfl | rfl | rfl | rfl | rfl | rfl | rfl | rfl | rfl | rfl | rfl <;> rfl
def ap.IX {w w':w_} {bi B:Nat} {q:af} {l:List ao} {a':Option d_} {c':Nat} (h:ap w bi q) (hb:bi<=B) (hB: ∀ g∈q.Mc,g < B) (hs: ∀ g∈q.Mc,w'.heap[g]? =w.heap[g]?)
  (ho:w'.ownsRow B 125 12 (s_ a' l.length c') l.length (bg.flat l)) (hm: ∀ x∈l,aR.cO w' bi x) (hn:(l.filterMap aR.bt).Nodup) (hk: ∀ g∈l.filterMap aR.bt,g∈q.L8.filterMap aR.bt\/g∉q.Mc) (hk2: ∀ g∈l.filterMap aR.bt,g < B):ap w' bi ({ q with L8:=l,aN:=a',aW:=c' } :af):=by
 refine ⟨cq ho hb,aL h.aj fun g hg=>hs g Zb1,aL h.L9 fun g hg=>hs g Zb1,aL h.ag fun g hg=>hs g Zb1,aL h.ae fun g hg=>hs g Zb1,aL h.ai fun g hg=>hs g Zb1,hm,fun x hx=>(h.eE x hx).same fun g hg=>hs g ?_,fun x hx=>(h.eR x hx).same fun g hg=>hs g ?_,?_⟩
 .exact I_
 .exact CE
 .have h5:=h.nodup
  have h6: ∀ g∈blk a',g∉q.Mc/\g∉l.filterMap aR.bt:=fun g hg=>⟨fun hm=>by have:=(cf ho hg).1; have:=hB g hm; omega,fun hm=>by have:=(cf ho hg).1; have:=hk2 g hm; omega⟩
  have e1:({ q with L8:=l,aN:=a',aW:=c' } :af).Mc=([] :List Nat) ++ (blk a' ++ (l.filterMap aR.bt ++ (blk q.bc ++ (blk q.ay ++ (blk q.ax ++ (blk q.am ++ (q.ae.filterMap aC.bt ++ (blk q.aK ++ (q.ai.filterMap aU.bt))))))))):=by simp [af.Mc]
  have e3:q.Mc=([] :List Nat) ++ (blk q.aN ++ (q.L8.filterMap aR.bt ++ (blk q.bc ++ (blk q.ay ++ (blk q.ax ++ (blk q.am ++ (q.ae.filterMap aC.bt ++ (blk q.aK ++ (q.ai.filterMap aU.bt))))))))):=by simp [af.Mc]
  exact Zbb
def nz {x:au} : ∀ u∈bm.vals x,u.oneCell'=true:=fun u hu=>by
 simp only [bm,nD,Kt,Ku,or_false] at hu;rcases hu with rfl | rfl | rfl <;> rfl
def ap.Eu {w w':w_} {bi B:Nat} {q:af} {l:List au} {a':Option d_} {c':Nat} (h:ap w bi q) (hb:bi<=B) (hB: ∀ g∈q.Mc,g < B) (hs: ∀ g∈q.Mc,w'.heap[g]? =w.heap[g]?)
  (ho:w'.ownsRow B 137 3 (s_ a' l.length c') l.length (bm.flat l)) (hm: ∀ x∈l,aC.cO w' bi x) (hn:(l.filterMap aC.bt).Nodup) (hk: ∀ g∈l.filterMap aC.bt,g∈q.ae.filterMap aC.bt\/g∉q.Mc) (hk2: ∀ g∈l.filterMap aC.bt,g < B):ap w' bi ({ q with ae:=l,am:=a',aG:=c' } :af):=by
 refine ⟨aL h.L8 fun g hg=>hs g Zb1,aL h.aj fun g hg=>hs g Zb1,aL h.L9 fun g hg=>hs g Zb1,aL h.ag fun g hg=>hs g Zb1,cq ho hb,aL h.ai fun g hg=>hs g Zb1,fun x hx=>(h.eI x hx).same fun g hg=>hs g ?_,hm,fun x hx=>(h.eR x hx).same fun g hg=>hs g ?_,?_⟩
 .exact Zab
 .exact CE
 .have h5:=h.nodup
  have h6: ∀ g∈blk a',g∉q.Mc/\g∉l.filterMap aC.bt:=fun g hg=>⟨fun hm=>by have:=(cf ho hg).1; have:=hB g hm; omega,fun hm=>by have:=(cf ho hg).1; have:=hk2 g hm; omega⟩
  have e1:({ q with ae:=l,am:=a',aG:=c' } :af).Mc=(blk q.aN ++ (q.L8.filterMap aR.bt ++ (blk q.bc ++ (blk q.ay ++ (blk q.ax))))) ++ (blk a' ++ (l.filterMap aC.bt ++ (blk q.aK ++ (q.ai.filterMap aU.bt)))):=by simp [af.Mc]
  have e3:q.Mc=(blk q.aN ++ (q.L8.filterMap aR.bt ++ (blk q.bc ++ (blk q.ay ++ (blk q.ax))))) ++ (blk q.am ++ (q.ae.filterMap aC.bt ++ (blk q.aK ++ (q.ai.filterMap aU.bt)))):=by simp [af.Mc]
  exact Zbb
def qX {x:aM} : ∀ u∈bX.vals x,u.oneCell'=true:=fun u hu=>by
 simp only [bX,qT,Kt,Ku,or_false] at hu;rcases hu with rfl | rfl | rfl | rfl | rfl <;> rfl
def ap.Jb {w w':w_} {bi B:Nat} {q:af} {l:List aM} {a':Option d_} {c':Nat} (h:ap w bi q) (hb:bi<=B) (hB: ∀ g∈q.Mc,g < B) (hs: ∀ g∈q.Mc,w'.heap[g]? =w.heap[g]?)
  (ho:w'.ownsRow B 51 5 (s_ a' l.length c') l.length (bX.flat l)) (hm: ∀ x∈l,aU.cO w' bi x) (hn:(l.filterMap aU.bt).Nodup) (hk: ∀ g∈l.filterMap aU.bt,g∈q.ai.filterMap aU.bt\/g∉q.Mc) (hk2: ∀ g∈l.filterMap aU.bt,g < B):ap w' bi ({ q with ai:=l,aK:=a',aV:=c' } :af):=by
 refine ⟨aL h.L8 fun g hg=>hs g Zb1,aL h.aj fun g hg=>hs g Zb1,aL h.L9 fun g hg=>hs g Zb1,aL h.ag fun g hg=>hs g Zb1,aL h.ae fun g hg=>hs g Zb1,cq ho hb,fun x hx=>(h.eI x hx).same fun g hg=>hs g ?_,fun x hx=>(h.eE x hx).same fun g hg=>hs g ?_,hm,?_⟩
 .exact Zab
 .exact I_
 .have h5:=h.nodup
  have h6: ∀ g∈blk a',g∉q.Mc/\g∉l.filterMap aU.bt:=fun g hg=>⟨fun hm=>by have:=(cf ho hg).1; have:=hB g hm; omega,fun hm=>by have:=(cf ho hg).1; have:=hk2 g hm; omega⟩
  have e1:({ q with ai:=l,aK:=a',aV:=c' } :af).Mc=(blk q.aN ++ (q.L8.filterMap aR.bt ++ (blk q.bc ++ (blk q.ay ++ (blk q.ax ++ (blk q.am ++ (q.ae.filterMap aC.bt))))))) ++ (blk a' ++ (l.filterMap aU.bt ++ ([] :List Nat))):=by simp [af.Mc]
  have e3:q.Mc=(blk q.aN ++ (q.L8.filterMap aR.bt ++ (blk q.bc ++ (blk q.ay ++ (blk q.ax ++ (blk q.am ++ (q.ae.filterMap aC.bt))))))) ++ (blk q.aK ++ (q.ai.filterMap aU.bt ++ ([] :List Nat))):=by simp [af.Mc]
  exact Zbb
def uI (w:w_) (bi:Nat) (a0:Option d_) (c0:Nat) (l0:List bD) (ho:w.ownsRow bi 128 3 (s_ a0 l0.length c0) l0.length (dm.flat l0)) (a:Option d_) (l:List bD) (cap:Nat) (h:ld w a (dm.flat l)) (hl:l0.length+l.length<=4000000) (lY:bi<=w.heap.size):
  ∃ a' cap' w',(Builtin.append_ #[40,40] 40 #[s_ a0 l0.length c0,s_ a l.length cap]).run J3 w= .ok (s_ a' (l0.length+l.length) cap') w'/\w'.ownsRow bi 128 3 (s_ a' (l0.length+l.length) cap') (l0.length+l.length) (dm.flat (l0 ++ l))/\w.grownBy w' (Value.slice a0 l0.length c0).ownBlock/\ ∀ g∈blk a',g∈blk a0\/g=w.heap.size:=by
 obtain ⟨i,hi,e⟩:=Kw.1 yS;simp only [Kx] at e;rw [dm.dc];exact jD w bi _ _ 128 i _ 3 24 underlying40 hi e.1 e.2.1 e.2.2 rfl (by decide) a0 l0.length c0 _ ho a l.length cap _ h (dm.dM l) Ec hl (by decide) lY
def ap.newSem {w w':w_} {bi B:Nat} {q:af} {l:List bD} {a':Option d_} {c':Nat} (h:ap w bi q) (hb:bi<=B) (hB: ∀ g∈q.Mc,g < B) (hs: ∀ g∈q.Mc,w'.heap[g]? =w.heap[g]?)
  (ho:w'.ownsRow B 128 3 (s_ a' l.length c') l.length (dm.flat l)):ap w' bi ({ q with aj:=l,bc:=a',bF:=c' } :af):=by
 refine ⟨aL h.L8 fun g hg=>hs g Zb1,cq ho hb,aL h.L9 fun g hg=>hs g Zb1,aL h.ag fun g hg=>hs g Zb1,aL h.ae fun g hg=>hs g Zb1,aL h.ai fun g hg=>hs g Zb1,fun x hx=>(h.eI x hx).same fun g hg=>hs g ?_,fun x hx=>(h.eE x hx).same fun g hg=>hs g ?_,fun x hx=>(h.eR x hx).same fun g hg=>hs g ?_,?_⟩
 .exact Zab
 .exact I_
 .exact CE
 .have h5:=h.nodup
  have h6: ∀ g∈blk a',g∉q.Mc:=fun g hg hm=>by have:=(cf ho hg).1; have:=hB g hm; omega
  have e1: ∀ (a2:Option d_) (l2:List bD) (c2:Nat),({ q with aj:=l2,bc:=a2,bF:=c2 } :af).Mc=(blk q.aN ++ q.L8.filterMap aR.bt) ++ (blk a2 ++ (blk q.ay ++ (blk q.ax ++ (blk q.am ++ (q.ae.filterMap aC.bt ++ (blk q.aK ++ q.ai.filterMap aU.bt)))))):=fun _ _ _=>by simp [af.Mc]
  have e2:=e1 q.bc q.aj q.bF;rw [e1];have e3:q.Mc=(blk q.aN ++ q.L8.filterMap aR.bt) ++ (blk q.bc ++ (blk q.ay ++ (blk q.ax ++ (blk q.am ++ (q.ae.filterMap aC.bt ++ (blk q.aK ++ q.ai.filterMap aU.bt)))))):=e2;rw [e3] at h5 h6;exact qv h5 (fN _) h6
end
section
def yN {p:aE} {x:bD} (h:p.Small) (hr:bK p=true) (hx:(Lit.int j_ x.id).wf=true):aE.Small { p with aj:=cA (·.id) x p.aj } :=by
 have h2:=((ch _).1 hr).fx;exact ⟨h.dl,by show (cA (·.id) x p.aj).length<=_; rw [eJ]; omega,h.cD,h.cC,h.cb,h.dH,h.L8,fun y hy=>(js.1 hy).elim (fun e=>e ▸ hx) (h.aj y),h.L9,h.ag,h.ae,h.ai⟩
end
section
open Go.Maps
attribute [local go_sem ↓] Kc Kd
def tF (p:af) (z:bD) (w:w_) (b0:Nat) (hwf:(Lit.int j_ z.id).wf=true) (qY:p.pure.Small) (h:ap w b0 p):
  k_ J3 87 #[a_ p.cells,a_ #[i_ j_ z.id,i_ j_ z.n,i_ j_ z.max]] w fun e w'=>gI w (cB p.pure { p.pure with aj:=cA (·.id) z p.pure.aj }) e w':=by
 have HB:bN (av (((w.alloc (c_ p.cells 46)).alloc (c_ #[i_ j_ z.id,i_ j_ z.n,i_ j_ z.max] 128)).alloc (c_ ar 46)) w.heap.size p/\ap (((w.alloc (c_ p.cells 46)).alloc (c_ #[i_ j_ z.id,i_ j_ z.n,i_ j_ z.max] 128)).alloc (c_ ar 46)) b0 p/\B_ w.heap.size w (((w.alloc (c_ p.cells 46)).alloc (c_ #[i_ j_ z.id,i_ j_ z.n,i_ j_ z.max] 128)).alloc (c_ ar 46))/\(((w.alloc (c_ p.cells 46)).alloc (c_ #[i_ j_ z.id,i_ j_ z.n,i_ j_ z.max] 128)).alloc (c_ ar 46)).heap[w.heap.size+1+1]? =o_ (c_ ar 46)):=by
  have b1:B_ w.heap.size w (((w.alloc (c_ p.cells 46)).alloc (c_ #[i_ j_ z.id,i_ j_ z.n,i_ j_ z.max] 128)).alloc (c_ ar 46)):=fg _ _ _ _;have h3:=dR w (c_ p.cells 46) (c_ #[i_ j_ z.id,i_ j_ z.n,i_ j_ z.max] 128) (c_ ar 46);exact ⟨h3.1,h.below b1,b1,h3.2.2.1⟩
 have Cj:bN ((((w.alloc (c_ p.cells 46)).alloc (c_ #[i_ j_ z.id,i_ j_ z.n,i_ j_ z.max] 128)).alloc (c_ ar 46)).heap[w.heap.size+1]? =o_ (c_ #[i_ j_ z.id,i_ j_ z.n,i_ j_ z.max] 128)):=(dR _ _ _ _).2.1;have fl:bN (p.Fit/\(∀ x∈p.L8,x.dX)/\p.pure.Small/\(Lit.int j_ z.id).wf=true):=⟨dV qY,fun x hx=>(cY qY hx).1,qY,hwf⟩
 have hpl:=fl.I.1.short.aj;have hcap:p.aj.length<=p.bF:=nV h.aj;have pd: ∀ g∈p.Mc,g < w.heap.size:=fun g hg=>(h.lt g hg).2
 clear h qY hwf;obtain ⟨m0,m1,m2,m3,m4,m5,m6,m7⟩:=HB.I.1.cells;unfold af.cells at *
 go_enter func87,ntmps87
 go_wp2_with fail;generalize ((w.alloc (c_ p.row 46)).alloc (c_ #[i_ j_ z.id,i_ j_ z.n,i_ j_ z.max] 128)).alloc (c_ ar 46)=W at *;clear m0 m1 m2 m3 m4 m5 m6 m7;refine (fR p W fl.I.1 fl.I.2.1 HB.I.2.1.at).mono ?_;rintro e W1 ⟨q,rfl,hown,gn,hb1⟩;have hb2:B_ W1.heap.size W1 (W1.alloc (c_ q.cells 46)):=(Kp _ _).alloc (Ki _) _;have hlt:w.heap.size+1+1 < W.heap.size:=(J2.1 HB.I.2.2.2).1;have hb3:B_ W.heap.size W (W1.alloc (c_ q.cells 46)):=hb1.trans (hb2.mono hb1.size);have hq1: ∀ g∈q.Mc,g < W1.heap.size:=fun g hg=>(hown.lt g hg).2
 have HQ:bN (av (W1.alloc (c_ q.cells 46)) W1.heap.size q/\ap (W1.alloc (c_ q.cells 46)) W.heap.size q/\q.pure=p.pure/\(∀ g∈q.Mc,g < W1.heap.size)/\W.heap.size<=W1.heap.size/\w.heap.size+1+1 < W.heap.size/\W1.heap.size < (W1.alloc (c_ q.cells 46)).heap.size):=⟨Kj _ _,hown.below hb2,gn,hq1,hb1.size,hlt,by simp⟩
 replace HB:bN (av (W1.alloc (c_ q.cells 46)) w.heap.size p/\ap (W1.alloc (c_ q.cells 46)) b0 p/\B_ w.heap.size w (W1.alloc (c_ q.cells 46))/\(W1.alloc (c_ q.cells 46)).heap[w.heap.size+1+1]? =o_ (c_ ar 46)):=⟨HB.I.1.below hb3,HB.I.2.1.below hb3,HB.I.2.2.1.trans (hb3.mono HB.I.2.2.1.size),(hb3.block _ hlt).trans HB.I.2.2.2⟩
 replace Cj:bN ((W1.alloc (c_ q.cells 46)).heap[w.heap.size+1]? =o_ (c_ #[i_ j_ z.id,i_ j_ z.n,i_ j_ z.max] 128)):=(hb3.block _ zw).trans Cj.I;have Au:bN (∀ g∈p.Mc,g < w.heap.size):=fun g hg=>pd g hg
 clear hown gn hb1 hb2 hb3 hq1 hlt pd;obtain ⟨m0,m1,m2,m3,m4,m5,m6,m7⟩:=HB.I.1.cells;unfold af.cells at *;go_wp2_with fail;generalize W1.alloc (c_ q.row 46)=W2 at *;clear m0 m1 m2 m4 m5 m6 m7;generalize W1.heap.size=o at *;clear m3
 go_loopw [7] (fun i wr=> ∃ k:Nat,k<=p.aj.length/\i=i_ j_ k/\bN (∀ y∈p.aj.take k,y.id < z.id)/\bN (B_ W2.heap.size W2 wr)) (fun i _=>p.aj.length - (Go.RowKit.intOf i).toNat)
 case atStart=>exact ⟨0,Ky _,rfl,fun y hy=>by simp at hy,Kp _ _⟩
 case round=>
  obtain ⟨k,hk,rfl,HA,Ez⟩:=hrel;have hbr:B_ W2.heap.size W2 wr.drew.drew:=Ez.I.drew.drew;have hsz:=hbr.size;replace Ez:bN (B_ W2.heap.size W2 wr.drew):=Ez.I.drew;have hq:=HQ.I;have hzl:w.heap.size+1 < W2.heap.size:=zw
  replace HB:bN (av wr.drew.drew w.heap.size p/\ap wr.drew.drew b0 p/\B_ w.heap.size w wr.drew.drew/\wr.drew.drew.heap[w.heap.size+1+1]? =o_ (c_ ar 46)):=⟨HB.I.1.below hbr,HB.I.2.1.below hbr,HB.I.2.2.1.trans (hbr.mono HB.I.2.2.1.size),(hbr.block _ zw).trans HB.I.2.2.2⟩
  replace HQ:bN (av wr.drew.drew o q/\ap wr.drew.drew W.heap.size q/\q.pure=p.pure/\(∀ g∈q.Mc,g < o)/\W.heap.size<=o/\w.heap.size+1+1 < W.heap.size/\o < wr.drew.drew.heap.size):=⟨hq.1.below hbr,hq.2.1.below hbr,hq.2.2.1,hq.2.2.2.1,hq.2.2.2.2.1,hq.2.2.2.2.2.1,zw⟩
  replace Cj:bN (wr.drew.drew.heap[w.heap.size+1]? =o_ (c_ #[i_ j_ z.id,i_ j_ z.n,i_ j_ z.max] 128)):=(hbr.block _ hzl).trans Cj.I;clear hbr hsz hq hzl;have m:wr.drew.cell? ⟨w.heap.size,3,n_⟩=o_ (s_ p.bc p.aj.length p.bF):=HB.I.1.cells.2.2.2.1;have z0:wr.drew.cell? ⟨w.heap.size+1,0,n_⟩=o_ (i_ j_ z.id):=(gm (x:=z) Cj.I).1;have i0:(0:Int)<=(k:Int):=zw
  have icap:(k:Int)<=(p.bF:Int):=zw
  have i2:(k:Int)<=(p.aj.length:Int):=zw
  rcases zm (fun y:bD=>y.id) z.id p.aj k with ⟨x,hx,hc,hlt⟩ | ⟨x,hx,hc,hlt⟩ | hlt
  .have HT:bN (∀ y∈p.aj.take (k+1),y.id < z.id):=nE hx HA.I hc
   have i1:(k:Int) < (p.aj.length:Int):=zw
   have d1:decide ((k:Int) < (p.aj.length:Int))=true:=decide_eq_true i1;have d2:decide (x.id < z.id)=true:=decide_eq_true hc;obtain ⟨g,ha,hat⟩:=lQ HB.I.2.1.at.2.1 hx;have c0:wr.drew.cell? ⟨g,k * 3,n_⟩=o_ (i_ j_ x.id):=hat.1;have m2:=m;rw [ha] at m2;clear hat hx ha hc;clear m;go_wp2_with fail;refine aT (fun w'=>w'=wr.drew) ZbY rfl ?_
   iterate 16 (refine PI ?_ (hy:=fun w0 hS0=>by subst hS0; go_simp; try with_reducible rfl))
   refine bk ZbY ?_ _;intro w1 cm;subst cm;go_wp2;go_roundw
   case rel=>exact ⟨k+1,zw,by go_num,HT.I,Ez.I⟩
   case measure=>simp [Go.RowKit.intOf]; omega
  focus
   have HX:bN (∀ y,p.aj[k]? =o_ y-> ¬ y.id < z.id):=fun y hy e=>by rw [hx] at hy; cases hy; exact hc e
   have i1:(k:Int) < (p.aj.length:Int):=zw
   have d1:decide ((k:Int) < (p.aj.length:Int))=true:=decide_eq_true i1;have d2:decide (x.id < z.id)=false:=decide_eq_false hc;obtain ⟨g,ha,hat⟩:=lQ HB.I.2.1.at.2.1 hx;have c0:wr.drew.cell? ⟨g,k * 3,n_⟩=o_ (i_ j_ x.id):=hat.1;have m2:=m;rw [ha] at m2;clear hat hx ha hc;clear m;go_wp2_with fail;refine aT (fun w'=>w'=wr.drew) ZbY rfl ?_
   iterate 16 (refine PI ?_ (hy:=fun w0 hS0=>by subst hS0; go_simp; try with_reducible rfl))
   refine bk ZbY ?_ _;intro w1 cm;subst cm;clear i1 d1 d2 c0 m2
  rotate_left
  focus
   have HX:bN (∀ y,p.aj[k]? =o_ y-> ¬ y.id < z.id):=fun y hy=>absurd (Lj.1 hy).1 hlt
   have d1:decide ((k:Int) < (p.aj.length:Int))=false:=decide_eq_false zw;go_wp2_with fail;refine aT (fun w'=>w'=wr.drew) ZbY rfl ?_
   iterate 6 (refine PI ?_ (hy:=fun w0 hS0=>by subst hS0; go_simp; try with_reducible rfl))
   iterate 9 (refine nl ?_; simp only [pt,sb,s0,s1])
   (refine PI ?_ (hy:=fun w0 hS0=>by subst hS0; go_simp; try with_reducible rfl))
   refine bk ZbY ?_ _;intro w1 cm;subst cm;clear d1 m
  all_goals
   clear hlt z0 Ez;go_wp2_with fail;refine Kr (S:=fun w'=>av w' w.heap.size p/\w'.heap[w.heap.size+1]? =o_ (c_ #[i_ j_ z.id,i_ j_ z.n,i_ j_ z.max] 128)) ZbY ⟨HB.I.1,Cj.I⟩ (fun bE=> ?_);generalize wr.drew.drew=V2 at *;refine tt 1 bE ?_ (hy:=fun w0 hS0=>by have q0:w0.cell? ⟨w.heap.size,3,n_⟩=o_ (s_ p.bc p.aj.length p.bF):=hS0.1.cells.2.2.2.1; obtain ⟨q1,q2,q3⟩:=gm (x:=z) hS0.2; go_simp; try with_reducible rfl);refine tt 2 bE ?_ (hy:=fun w0 hS0=>by have q0:w0.cell? ⟨w.heap.size,3,n_⟩=o_ (s_ p.bc p.aj.length p.bF):=hS0.1.cells.2.2.2.1; obtain ⟨q1,q2,q3⟩:=gm (x:=z) hS0.2; go_simp; try with_reducible rfl);refine tt 3 bE ?_ (hy:=fun w0 hS0=>by have q0:w0.cell? ⟨w.heap.size,3,n_⟩=o_ (s_ p.bc p.aj.length p.bF):=hS0.1.cells.2.2.2.1; obtain ⟨q1,q2,q3⟩:=gm (x:=z) hS0.2; go_simp; try with_reducible rfl);refine tt 4 bE ?_ (hy:=fun w0 hS0=>by have q0:w0.cell? ⟨w.heap.size,3,n_⟩=o_ (s_ p.bc p.aj.length p.bF):=hS0.1.cells.2.2.2.1; obtain ⟨q1,q2,q3⟩:=gm (x:=z) hS0.2; go_simp; try with_reducible rfl);refine tt 6 bE ?_ (hy:=fun w0 hS0=>by have q0:w0.cell? ⟨w.heap.size,3,n_⟩=o_ (s_ p.bc p.aj.length p.bF):=hS0.1.cells.2.2.2.1; obtain ⟨q1,q2,q3⟩:=gm (x:=z) hS0.2; go_simp; try with_reducible rfl);clear bE;have hkl:(p.aj.take k).length=k:=by rw [Lk]; omega
   have hq:=HQ.I;have hS: ∀ W,B_ V2.heap.size V2 W->av W w.heap.size p/\W.heap[w.heap.size+1]? =o_ (c_ #[i_ j_ z.id,i_ j_ z.n,i_ j_ z.max] 128):=fun W hb=>⟨(hb.block _ zw).trans HB.I.1,(hb.block _ zw).trans Cj.I⟩
   have wg:bN (∀ (W:w_) (g:Nat),B_ V2.heap.size V2 W->W.heap[g]? =o_ (c_ #[] 128)->V2.heap.size<=g-> ∃ a5 c5 w5,(Builtin.append_ #[40,40] 40 #[s_ (o_ ⟨g,0,n_⟩) 0 0,s_ p.bc k p.bF]).run J3 W= .ok (s_ a5 k c5) w5/\w5.ownsRow V2.heap.size 128 3 (s_ a5 k c5) k (dm.flat (p.aj.take k))/\B_ V2.heap.size V2 w5/\B_ V2.heap.size V2 w5/\ ∀ h,V2.heap.size<=h->h≠g->h < W.heap.size->w5.heap[h]? =W.heap[h]?):=fun W g hb hg hge=>by
    obtain ⟨a5,c5,w5,hap,oe,A7,-⟩:=uI W V2.heap.size (o_ ⟨g,0,n_⟩) 0 [] (i6 hg hge) p.bc (p.aj.take k) p.bF (uM k (HB.I.2.1.below hb).at.2.1.1) ZcQ hb.size;rw [hkl] at hap oe;simp only [K4,Li,List.nil_append] at hap oe;have iJ:B_ V2.heap.size V2 w5:=hb.grown A7 hb.size fun c e=>by cases e; exact hge
    exact ⟨a5,c5,w5,hap,oe,iJ,iJ,fun h _ hn hl=>A7.block h hl (fun e=>hn (by cases e; rfl))⟩
   have afR: ∀ (W:w_) (c:Obj),B_ V2.heap.size V2 W->B_ V2.heap.size V2 (W.alloc c):=fun W c hb=>hb.alloc hb.size _
   refine KW (rs:= [0,7]) ZbY zy ?_;refine KX rfl (fun K hK=> ?_) (KX rfl (fun K hK=> ?_) KY)
   focus
    have b1:B_ V2.heap.size V2 (V2.alloc (c_ #[] 128)):=afR _ _ (Kp _ _);simp only [KZ,K0];rw [if_pos (by rfl)];go_wp2_with fail;refine hK.out _ _ (hS _ b1) (fun bE=> ?_);clear hK K bE
    try simp only [pt,sb,s0,s1]
    have b7:B_ V2.heap.size V2 ((V2.alloc (c_ #[] 128)).alloc (c_ #[i_ j_ z.id,i_ j_ z.n,i_ j_ z.max] 128)):=afR _ _ b1;refine KW (rs:= [5,7]) ZbY zy ?_;refine KX rfl (fun K hK=> ?_) (KX rfl (fun K hK=> ?_) KY)
    focus
     clear b7;obtain ⟨a5,c5,w5,hap,oe,iJ,-,-⟩:=wg.I _ _ b1 (Kj _ _) (Ki _);simp only [KZ,K0,K1];rw [if_pos (by rfl)];refine cM _ _ _ rfl _ _ _ w5 rfl rfl hap ?_;refine hK.out _ _ (hS _ iJ) (fun bE=> ?_);clear hK K bE
     try simp only [pt,sb,s0,s1]
     refine L7 7 (fun K hK=> ?_);go_wp2_with fail;refine hK.out _ _ (hS _ (afR _ _ iJ)) (fun bE=> ?_);clear hK K bE
     try simp only [pt,sb,s0,s1]
     have qJ:bN ((w5.alloc (c_ #[i_ j_ z.id,i_ j_ z.n,i_ j_ z.max] 128)).ownsRow V2.heap.size 128 3 (s_ a5 k c5) k (dm.flat (p.aj.take k))/\(w5.alloc (c_ #[i_ j_ z.id,i_ j_ z.n,i_ j_ z.max] 128)).heap[w5.heap.size]? =o_ (c_ #[i_ j_ z.id,i_ j_ z.n,i_ j_ z.max] 128)/\B_ V2.heap.size V2 (w5.alloc (c_ #[i_ j_ z.id,i_ j_ z.n,i_ j_ z.max] 128))):=⟨cR oe ((Kp _ _).alloc (Ki _) _),Kj _ _,afR _ _ iJ⟩
     clear hap oe iJ b1 afR hS;generalize w5.alloc (c_ #[i_ j_ z.id,i_ j_ z.n,i_ j_ z.max] 128)=w6 at *;generalize w5.heap.size=gx at *
    rotate_left
    focus
     obtain ⟨a5,c5,w6,om,qH,jQ,-,zU⟩:=wg.I _ _ b7 ((PU zy).trans (Kj _ _)) (Ki _);simp only [KZ,K0,K1];rw [if_pos (by rfl)];go_wp2_with fail;refine hK.out _ _ (hS _ b7) (fun bE=> ?_);clear hK K bE
     try simp only [pt,sb,s0,s1]
     refine L7 5 (fun K hK=> ?_);refine cM _ _ _ rfl _ _ _ w6 rfl rfl om ?_;refine hK.out _ _ (hS _ jQ) (fun bE=> ?_);clear hK K bE
     try simp only [pt,sb,s0,s1]
     have qJ:bN (w6.ownsRow V2.heap.size 128 3 (s_ a5 k c5) k (dm.flat (p.aj.take k))/\w6.heap[(V2.heap.size+1)]? =o_ (c_ #[i_ j_ z.id,i_ j_ z.n,i_ j_ z.max] 128)/\B_ V2.heap.size V2 w6):=⟨qH,(zU _ zw zw ZcE).trans (by have h5:=Kj (V2.alloc (c_ #[] 128)) (c_ #[i_ j_ z.id,i_ j_ z.n,i_ j_ z.max] 128); simpa using h5),jQ⟩
     clear om qH jQ zU b1 b7 afR hS
   rotate_left 2
   focus
    have b7:B_ V2.heap.size V2 (V2.alloc (c_ #[i_ j_ z.id,i_ j_ z.n,i_ j_ z.max] 128)):=afR _ _ (Kp _ _);simp only [KZ,K0,K1];rw [if_pos (by rfl)];go_wp2_with fail;refine hK.out _ _ (hS _ b7) (fun bE=> ?_);clear hK K bE
    try simp only [pt,sb,s0,s1]
    have b1:B_ V2.heap.size V2 ((V2.alloc (c_ #[i_ j_ z.id,i_ j_ z.n,i_ j_ z.max] 128)).alloc (c_ #[] 128)):=afR _ _ b7;refine L7 0 (fun K hK=> ?_);go_wp2_with fail;refine hK.out _ _ (hS _ b1) (fun bE=> ?_);clear hK K bE
    try simp only [pt,sb,s0,s1]
    obtain ⟨a5,c5,w6,om,qH,jQ,-,zU⟩:=wg.I ((V2.alloc (c_ #[i_ j_ z.id,i_ j_ z.n,i_ j_ z.max] 128)).alloc (c_ #[] 128)) (V2.heap.size+1) b1 (Kq _ _ _) zw;refine L7 5 (fun K hK=> ?_);refine cM _ _ _ rfl _ _ _ w6 rfl rfl om ?_;refine hK.out _ _ (hS _ jQ) (fun bE=> ?_);clear hK K bE
    try simp only [pt,sb,s0,s1]
    have qJ:bN (w6.ownsRow V2.heap.size 128 3 (s_ a5 k c5) k (dm.flat (p.aj.take k))/\w6.heap[V2.heap.size]? =o_ (c_ #[i_ j_ z.id,i_ j_ z.n,i_ j_ z.max] 128)/\B_ V2.heap.size V2 w6):=⟨qH,(zU _ zw zw ZcE).trans ((PU zy).trans (Kj _ _)),jQ⟩
    clear om qH jQ zU b1 b7 afR hS
   all_goals
    have qH:w6.ownsRow V2.heap.size 128 3 (s_ a5 (p.aj.take k).length c5) (p.aj.take k).length (dm.flat (p.aj.take k)):=by rw [hkl]; exact qJ.I.1
    obtain ⟨a7,c7,w7,gT,mP,xI,-⟩:=uI w6 V2.heap.size a5 c5 (p.aj.take k) qH _ [z] 1 (jO qJ.I.2.1) ZcP qJ.I.2.2.size;have mI:(p.aj.take k ++ [z]).length=k+1:=by rw [Lf,hkl]; rfl
    rw [hkl] at gT mP;simp only [Lg,K4,Li] at gT mP;have gh:B_ V2.heap.size V2 w7:=qJ.I.2.2.grown xI qJ.I.2.2.size fun c e=>(cf qJ.I.1 (di e)).1
    have Em:bN (w7.ownsRow V2.heap.size 128 3 (s_ a7 (k+1) c7) (k+1) (dm.flat (p.aj.take k ++ [z]))/\B_ V2.heap.size V2 w7/\(p.aj.take k ++ [z]).length=k+1):=⟨mP,gh,mI⟩
    refine L7 8 (fun K hK=> ?_);refine cM _ _ _ rfl _ _ _ w7 rfl rfl gT ?_;refine hK.out _ _ ⟨(gh.block _ zw).trans HB.I.1,(gh.block _ zw).trans Cj.I⟩ (fun bE=> ?_);clear hK K bE
    try simp only [pt,sb,s0,s1]
    have H8:bN (((av (w7.setCell ⟨o,3,n_⟩ (s_ a7 (k+1) c7)) w.heap.size p/\ap (w7.setCell ⟨o,3,n_⟩ (s_ a7 (k+1) c7)) b0 p/\B_ w.heap.size w (w7.setCell ⟨o,3,n_⟩ (s_ a7 (k+1) c7))/\(w7.setCell ⟨o,3,n_⟩ (s_ a7 (k+1) c7)).heap[w.heap.size+1+1]? =o_ (c_ ar 46))/\(w7.setCell ⟨o,3,n_⟩ (s_ a7 (k+1) c7)).heap[o]? =o_ (c_ #[i_ j_ q.id,i_ j_ q.next,s_ q.aN q.L8.length q.aW,s_ a7 (k+1) c7,s_ q.ay q.L9.length q.aO,s_ q.ax q.ag.length q.aP,s_ q.am q.ae.length q.aG,s_ q.aK q.ai.length q.aV] 46)/\ap (w7.setCell ⟨o,3,n_⟩ (s_ a7 (k+1) c7)) W.heap.size q)/\(w7.setCell ⟨o,3,n_⟩ (s_ a7 (k+1) c7)).ownsRow V2.heap.size 128 3 (s_ a7 (k+1) c7) (k+1) (dm.flat (p.aj.take k ++ [z]))/\V2.heap.size<=(w7.setCell ⟨o,3,n_⟩ (s_ a7 (k+1) c7)).heap.size):=by
     exact jp
    have HX8:bN ((w7.setCell ⟨o,3,n_⟩ (s_ a7 (k+1) c7)).heap[w.heap.size+1]? =o_ (c_ #[i_ j_ z.id,i_ j_ z.n,i_ j_ z.max] 128)):=(aH zw).trans ((gh.block _ zw).trans Cj.I);obtain ⟨⟨u,co⟩,fo⟩:(∃ u,w7.cell? ⟨o,3,n_⟩=o_ u)/\w7.frozen? ⟨o,3,n_⟩=false:=⟨⟨_,(HQ.I.1.below gh).cells.2.2.2.1⟩,Ko _ _ _ _ _ (HQ.I.1.below gh)⟩
    have wj:av w7 w.heap.size p/\w7.heap[w.heap.size+1]? =o_ (c_ #[i_ j_ z.id,i_ j_ z.n,i_ j_ z.max] 128):=⟨(gh.block _ zw).trans HB.I.1,(gh.block _ zw).trans Cj.I⟩
    clear qH gT mP xI gh mI qJ wg;refine tt 9 wj ?_;refine L7 10 (fun K hK=> ?_);go_wp2_with fail;refine hK.out _ _ ⟨H8.I.1.1.1,HX8.I⟩ (fun bE=> ?_);clear hK K bE
    try simp only [pt,sb,s0,s1]
    refine K3 ZbY ?_ _;clear co fo wj hq HX8 Cj;go_wp2_with fail;generalize w7.setCell ⟨o,3,n_⟩ (s_ a7 (k+1) c7)=W8 at *;have HS:bN (W8.cell? ⟨w.heap.size,3,n_⟩=o_ (s_ p.bc p.aj.length p.bF)):=H8.I.1.1.1.cells.2.2.2.1;have co8:W8.drew.cell? ⟨o,3,n_⟩=o_ (s_ a7 (k+1) c7):=by rw [K5 _ _ _ _ _ _ (show W8.drew.heap[o]? =_ from H8.I.1.2.1)]; rfl
    obtain ⟨u6,Jx⟩: ∃ u6,(if p.bF=k then p.bc else Option.map (fun x=>x.add (k * 3)) p.bc)=u6:=⟨_,rfl⟩
    refine Kr (S:=fun w'=>w'.cell? ⟨w.heap.size,3,n_⟩=o_ (s_ p.bc p.aj.length p.bF)) ZbY HS.I (fun bE=> ?_);refine tt 0 bE ?_ (hy:=fun w0 hS0=>by have cm:=hS0; go_simp; try with_reducible rfl);refine tt 2 bE ?_ (hy:=fun w0 hS0=>by have cm:=hS0; go_simp; try with_reducible rfl);refine tt 3 bE ?_ (hy:=fun w0 hS0=>by have cm:=hS0; go_simp; try with_reducible rfl);refine tt 4 bE ?_ (hy:=fun w0 hS0=>by have cm:=hS0; go_simp; try with_reducible rfl);refine tt 5 bE ?_ (hy:=fun w0 hS0=>by have cm:=hS0; go_simp; try with_reducible rfl);refine L7 1 (fun K hK=> ?_);go_wp2_with fail;refine hK.out _ _ HS.I (fun bE=> ?_);clear hK K
    try simp only [pt,sb,s0,s1]
    have hbd:B_ W8.heap.size W8 W8.drew:=(Kp _ _).drew;have mI:=Em.I.2.2;have hkd:(p.aj.drop k).length=p.aj.length - k:=Ql;obtain ⟨a9,c9,w9,hr,xj,FW,-⟩:=uI W8.drew V2.heap.size a7 c7 (p.aj.take k ++ [z]) ZcM u6 (p.aj.drop k) (p.bF - k) (by rw [<- Jx]; exact qK hcap (H8.I.1.1.2.1.below hbd).at.2.1.1) (by rw [mI,hkd]; omega) H8.I.2.2;rw [mI,hkd] at hr xj;have kN:B_ V2.heap.size W8.drew w9:=(Kp _ _).grown (a:=W8.drew) FW H8.I.2.2 fun c e=>(cf H8.I.2.1 (di e)).1
    have hq:=HQ.I;have h8:=H8.I;have p7:o < V2.heap.size:=hq.2.2.2.2.2.2;have hwl:w.heap.size+1 < o:=zw
    have lV:w9.heap[o]? =o_ (c_ #[i_ j_ q.id,i_ j_ q.next,s_ q.aN q.L8.length q.aW,s_ a7 (k+1) c7,s_ q.ay q.L9.length q.aO,s_ q.ax q.ag.length q.aP,s_ q.am q.ae.length q.aG,s_ q.aK q.ai.length q.aV] 46):=(kN.block _ p7).trans h8.1.2.1;have YU:bN (w9.cell? ⟨w.heap.size,3,n_⟩=o_ (s_ p.bc p.aj.length p.bF)/\(w9.setCell ⟨o,3,n_⟩ (s_ a9 (k+1+(p.aj.length - k)) c9)).cell? ⟨w.heap.size,3,n_⟩=o_ (s_ p.bc p.aj.length p.bF)):=by
     have e1:w9.cell? ⟨w.heap.size,3,n_⟩=o_ (s_ p.bc p.aj.length p.bF):=(J1 (kN.block _ ZcS)).trans HS.I;exact ZaX
    have sR:((p.aj.take k ++ [z]) ++ p.aj.drop k).length=k+1+(p.aj.length - k):=by rw [Lf,mI,hkd]
    have gn:({ q with aj:=(p.aj.take k ++ [z]) ++ p.aj.drop k,bc:=a9,bF:=c9 } :af).pure= { p.pure with aj:=cA (·.id) z p.pure.aj } :=by
     have e1:(p.aj.take k ++ [z]) ++ p.aj.drop k=cA (·.id) z p.pure.aj:=by
      rw [Lm];exact tP HA.I (fun y hy=>by have h5:=HX.I y hy; show ¬ y.id < z.id; omega)
     have e2:=HQ.I.2.2.1
     show ({ q.pure with aj:=(p.aj.take k ++ [z]) ++ p.aj.drop k } :aE)=_
     rw [e1,e2]
    have eX:bN (av (w9.setCell ⟨o,3,n_⟩ (s_ a9 (k+1+(p.aj.length - k)) c9)) w.heap.size p/\ap (w9.setCell ⟨o,3,n_⟩ (s_ a9 (k+1+(p.aj.length - k)) c9)) b0 p/\B_ w.heap.size w (w9.setCell ⟨o,3,n_⟩ (s_ a9 (k+1+(p.aj.length - k)) c9))/\(w9.setCell ⟨o,3,n_⟩ (s_ a9 (k+1+(p.aj.length - k)) c9)).heap[w.heap.size+1+1]? =o_ (c_ ar 46)/\av (w9.setCell ⟨o,3,n_⟩ (s_ a9 (k+1+(p.aj.length - k)) c9)) o ({ q with aj:=(p.aj.take k ++ [z]) ++ p.aj.drop k,bc:=a9,bF:=c9 } :af)/\ap (w9.setCell ⟨o,3,n_⟩ (s_ a9 (k+1+(p.aj.length - k)) c9)) W.heap.size ({ q with aj:=(p.aj.take k ++ [z]) ++ p.aj.drop k,bc:=a9,bF:=c9 } :af)/\({ q with aj:=(p.aj.take k ++ [z]) ++ p.aj.drop k,bc:=a9,bF:=c9 } :af).pure= { p.pure with aj:=cA (·.id) z p.pure.aj }):=by
     have hpb: ∀ g∈p.Mc,g < w.heap.size:=Au.I;have nW: ∀ g∈q.Mc,g < o:=hq.2.2.2.1;have sm: ∀ g,g < V2.heap.size->g≠o->(w9.setCell ⟨o,3,n_⟩ (s_ a9 (k+1+(p.aj.length - k)) c9)).heap[g]? =W8.heap[g]? :=fun g hg hne=>(aH hne).trans (kN.block _ hg)
     have lY:B_ w.heap.size w (w9.setCell ⟨o,3,n_⟩ (s_ a9 (k+1+(p.aj.length - k)) c9)):=bP (h8.1.1.2.2.1.drew.trans (kN.mono zw)) zw;refine ⟨(sm _ zw zw).trans h8.1.1.1,h8.1.1.2.1.same fun g hg=>sm g Zca Zca,lY,(sm _ zw zw).trans h8.1.1.2.2.2,?_,?_,gn⟩
     .have h5:=cx (i:=3) (v:=s_ a9 (k+1+(p.aj.length - k)) c9) lV
      unfold av;simp only [sR];exact h5
     .refine h8.1.2.2.newSem (B:=V2.heap.size) zw (fun g hg=>by have:=nW g hg; omega) (fun g hg=>sm g Zcc Zcc) ?_
      exact Za3
    refine L7 6 (fun K hK=> ?_);refine cM _ _ _ rfl _ _ _ w9 rfl rfl hr ?_;refine hK.out _ _ YU.I.1 (fun bE=> ?_);clear hK K
    try simp only [pt,sb,s0,s1]
    obtain ⟨⟨u,co⟩,fo⟩:(∃ u,w9.cell? ⟨o,3,n_⟩=o_ u)/\w9.frozen? ⟨o,3,n_⟩=false:=⟨⟨_,by rw [K5 _ _ _ _ _ _ lV]; rfl⟩,Ko _ _ _ _ _ lV⟩
    clear hr xj FW kN hq h8 p7 hwl lV hbd;refine tt 7 bE ?_ (hy:=fun w0 hS0=>by have cm:=hS0; go_simp; try with_reducible rfl);refine L7 8 (fun K hK=> ?_);go_wp2_with fail;refine hK.out _ _ YU.I.2 (fun bE=> ?_);clear hK K
    try simp only [pt,sb,s0,s1]
    refine K3 ZbY ?_ _;clear bE co fo YU HS co8;generalize w9.setCell ⟨o,3,n_⟩ (s_ a9 (k+1+(p.aj.length - k)) c9)=W10 at *;have Mb:=fi p ({ q with aj:=(p.aj.take k ++ [z]) ++ p.aj.drop k,bc:=a9,bF:=c9 } :af) W10 ⟨fl.I.1,fl.I.2.1,eX.I.2.1.at⟩ (fun hr=>by
     have h5:aE.Small ({ q with aj:=(p.aj.take k ++ [z]) ++ p.aj.drop k,bc:=a9,bF:=c9 } :af).pure:=by rw [eX.I.2.2.2.2.2.2]; exact yN fl.I.2.2.1 hr fl.I.2.2.2
     exact ⟨dV h5,fun x hx=>(cY h5 hx).1,eX.I.2.2.2.2.2.1.at⟩)
    obtain ⟨m0,m1,m2,m3,m4,m5,m6,m7⟩:=eX.I.1.cells;obtain ⟨k0,k1,k2,k3,k4,k5,k6,k7⟩:=eX.I.2.2.2.2.1.cells;unfold af.cells at Mb;simp only [sR] at Mb k0 k1 k2 k3 k4 k5 k6 k7;have DM:bN (((p.aj.take k ++ [z]) ++ p.aj.drop k).length=k+1+(p.aj.length - k)):=sR;clear sR mI hkd Jx gn;go_wp2_with fail;refine Mb.mono ?_;clear Mb m0 m1 m2 m3 m4 m5 m6 m7 k0 k1 k2 k3 k4 k5 k6 k7;rintro e ow ⟨gy,hok⟩;have hq:=HQ.I.2.2.2.2;have HZ:bN (B_ w.heap.size w ow/\ow.heap[w.heap.size+1+1]? =o_ (c_ ar 46)/\ap ow W.heap.size ({ q with aj:=(p.aj.take k ++ [z]) ++ p.aj.drop k,bc:=a9,bF:=c9 } :af)/\w.heap.size+1+1 < W.heap.size):=⟨eX.I.2.2.1.trans (gy.mono eX.I.2.2.1.size),(gy.block _ (J2.1 eX.I.2.2.2.1).1).trans eX.I.2.2.2.1,eX.I.2.2.2.2.2.1.below gy,hq.2.1⟩
    clear gy hq;rw [eX.I.2.2.2.2.2.2] at hok;rcases hok with ⟨hok,rfl⟩ | ⟨hok,rfl⟩
    .have HN:bN (cB p.pure { p.pure with aj:=cA (·.id) z p.pure.aj } =o_ { p.pure with aj:=cA (·.id) z p.pure.aj }):=jS hok
     clear hok;go_wp2_with (refine ec _ _ #[i_ j_ q.id,i_ j_ q.next,s_ q.aN q.L8.length q.aW,s_ a9 (k+1+(p.aj.length - k)) c9,s_ q.ay q.L9.length q.aO,s_ q.ax q.ag.length q.aP,s_ q.am q.ae.length q.aG,s_ q.aK q.ai.length q.aV] HZ.I.2.1 ?_);refine mG results87 (b_ true) HZ.I.2.1 ?_;have hl:=HZ.I.2.2.2;rw [HN.I];refine ⟨({ q with aj:=(p.aj.take k ++ [z]) ++ p.aj.drop k,bc:=a9,bF:=c9 } :af),by unfold af.cells; simp only [DM.I]; rfl,(HZ.I.2.2.1.lower zw).same fun g hg=>KH _ _ _ _ Zb7,eX.I.2.2.2.2.2.2,kz HZ.I.1 zw _⟩
    .have HN:bN (cB p.pure { p.pure with aj:=cA (·.id) z p.pure.aj } =n_):=jh hok
     clear hok;go_wp2_with (refine ec _ _ ar HZ.I.2.1 ?_);refine mG results87 (b_ false) HZ.I.2.1 ?_;exact TZ
end
section
abbrev newP (id RX:Int) (l:List dN):aD:=⟨id,RX,l,0,0,0,0,0,⟨#[]⟩,⟨#[]⟩,0,0⟩
section
variable {p:aE} {id RX:Int} {l:List dN}
def pO (h:p.Small) (hr:bK p=true) (hx:l.length<=1048576/\ ∀ o∈l,o.2.2.2.size<=1048576) (hw:(Lit.int j_ id).wf=true):aE.Small { p with L8:=bY (·.id) (newP id RX l) p.L8 } :=by
 have h2:=((ch _).1 hr).dl;exact ⟨by show (bY (·.id) (newP id RX l) p.L8).length<=_; rw [er]; omega,h.fx,h.cD,h.cC,h.cb,h.dH,fun y hy=>(fq.1 hy).elim (fun e=>e ▸ ⟨⟨hx.1,hx.2,Ky _,Ky _⟩,hw,by show (Lit.int j_ 0).wf=true; decide,by show (Lit.int j_ 0).wf=true; decide⟩) (h.L8 y),h.aj,h.L9,h.ag,h.ae,h.ai⟩
end
end
section
open Go.Maps
attribute [local go_sem ↓] Kc Kd
structure ng {α:Type} (K:Kind α) (T:T_) (W w:w_) (acc:List α) (a:Option d_) (c:Nat):Prop where
 own:w.ownsRow W.heap.size T K.n (s_ a acc.length c) acc.length (K.flat acc)
 cd:B_ W.heap.size W w
def ng.start {α:Type} {K:Kind α} {T:T_} {W:w_} :ng K T W (W.alloc (c_ #[] T)) [] (o_ ⟨W.heap.size,0,n_⟩) 0:=⟨i6 (Kj _ _) (Ki _),(Kp _ _).alloc (Ki _) _⟩
def ng.add {α:Type} {K:Kind α} {T:T_} {W w:w_} {acc:List α} {a:Option d_} {c:Nat} (h:ng K T W w acc a c) (t:T_) (bytes:Nat) {z0:v_} {P:Program} (ht:P.underlying t=o_ (.slice T))
  (hi:(P.info? T).map (fun i=>(i.zero,i.size,i.bytes))=o_ (o_ z0,K.n,bytes)) (hz:z0.cells.size=K.n) (hn:0 < K.n) (hby:bytes<=1000) (z:α) (zs:Array v_) (hzs:zs.toList=K.vals z) (h1: ∀ u∈K.vals z,u.oneCell'=true) (hl:acc.length<=2000000):
  ∃ a' c' w',(Builtin.append_ #[t,t] t #[s_ a acc.length c,s_ (o_ ⟨w.heap.size,0,n_⟩) 1 1]).run P (w.alloc (c_ zs T))= .ok (s_ a' (acc.length+1) c') w'/\ng K T W w' (acc ++ [z]) a' c':=by
 obtain ⟨i,hi,e⟩:=Kw.1 hi;simp only [Kx] at e;have b1:B_ w.heap.size w (w.alloc (c_ zs T)):=(Kp _ _).alloc (Ki _) _;have b2:=h.cd.trans (b1.mono h.cd.size);obtain ⟨a',c',w',hr,ho,hg,-⟩:=jD (P:=P) (w.alloc (c_ zs T)) W.heap.size t t T i z0 K.n bytes ht hi e.1 e.2.1 e.2.2 hz hn a acc.length c _ (cR h.own b1) (o_ ⟨w.heap.size,0,n_⟩) 1 1 (K.vals z) (by rw [<- hzs]; exact jO (Kj _ _)) (by rw [K.len,Nat.one_mul]) h1 zw hby b2.size;refine ⟨a',c',w',hr,⟨?_,b2.grown hg b2.size fun k e=>(cf h.own (di e)).1⟩⟩;exact ZaP
def DQ {p q:af} {w W W2 w9:w_} {o b0 n9 c9:Nat} {x:ao} {xp:aD} {acc:List ao} {a9:Option d_} (hB:av W2 w.heap.size p/\ap W2 b0 p/\B_ w.heap.size w W2/\W2.heap[w.heap.size+1]? =o_ (c_ ar 46))
  (hQ:av W2 o q/\ap W2 W.heap.size q/\q.pure=p.pure/\(∀ g∈q.Mc,g < o)/\W.heap.size<=o/\w.heap.size+1 < W.heap.size/\o < W2.heap.size) (hpb: ∀ g∈p.Mc,g < w.heap.size) (hl:ng bg 125 W2 w9 acc a9 c9) (ha:acc=bY (fun y:ao=>y.id) x q.L8) (hn:acc.length=n9) (hx:x.toaD=xp)
  (hk: ∀ g,aR.bt x=o_ g->g∉q.Mc/\g≠o) (hm:aR.cO W2 W.heap.size x):
  (av (w9.setCell ⟨o,2,n_⟩ (s_ a9 n9 c9)) w.heap.size p/\ap (w9.setCell ⟨o,2,n_⟩ (s_ a9 n9 c9)) b0 p/\B_ w.heap.size w (w9.setCell ⟨o,2,n_⟩ (s_ a9 n9 c9))/\(w9.setCell ⟨o,2,n_⟩ (s_ a9 n9 c9)).heap[w.heap.size+1]? =o_ (c_ ar 46))/\av (w9.setCell ⟨o,2,n_⟩ (s_ a9 n9 c9)) o ({ q with L8:=acc,aN:=a9,aW:=c9 } :af)/\ap (w9.setCell ⟨o,2,n_⟩ (s_ a9 n9 c9)) W.heap.size ({ q with L8:=acc,aN:=a9,aW:=c9 } :af)/\({ q with L8:=acc,aN:=a9,aW:=c9 } :af).pure= { p.pure with L8:=bY (·.id) xp p.pure.L8 } :=by
 have hb:=hl.cd;have nW:=hQ.2.2.2.1;have sm: ∀ g,g < W2.heap.size->g≠o->(w9.setCell ⟨o,2,n_⟩ (s_ a9 n9 c9)).heap[g]? =W2.heap[g]? :=fun g hg hne=>(aH hne).trans (hb.block _ hg)
 have lY:B_ w.heap.size w (w9.setCell ⟨o,2,n_⟩ (s_ a9 n9 c9)):=bP (hB.2.2.1.trans (hb.mono zw)) zw;have iH: ∀ g∈acc.filterMap aR.bt,g∈q.L8.filterMap aR.bt\/aR.bt x=o_ g:=fun g hg=>by
  exact V_
 have hin: ∀ g∈q.L8.filterMap aR.bt,g∈q.Mc:=fun g hg=>by simp only [af.Mc,Kg]; simp [hg]
 refine ⟨⟨(sm _ zw zw).trans hB.1,hB.2.1.same fun g hg=>sm g Zca Zca,lY,(sm _ zw zw).trans hB.2.2.2⟩,?_,?_,?_⟩
 .have h5:=cx (i:=2) (v:=s_ a9 n9 c9) ((hb.block _ hQ.2.2.2.2.2.2).trans hQ.1)
  unfold av;simp only [hn];exact h5
 .refine hQ.2.1.IX (B:=W2.heap.size) zw (fun g hg=>by have:=nW g hg; omega) (fun g hg=>sm g Zcc Zcc) ?_ (fun z hz=> ?_) ?_ (fun g hg=> ?_) (fun g hg=> ?_)
  .exact Za4
  .rw [ha] at hz
   rcases fq.1 hz with rfl | hz
   .exact Zbe
   .refine (hQ.2.1.eI z hz).same fun g hg=> ?_
    exact ZaG
  .have h5:=hQ.2.1.nodup
   simp only [af.Mc,Kf] at h5;have h6:(q.L8.filterMap aR.bt).Nodup:=h5.2.1.1;have hp:(acc.filterMap aR.bt).Perm ((x :: q.L8).filterMap aR.bt):=by rw [ha]; exact (pz x _).filterMap _
   refine hp.nodup_iff.2 ?_;cases he:aR.bt x with
   | none=>rw [List.filterMap_cons_none he]; exact h6
   | some g=>rw [List.filterMap_cons_some he]; exact Lp.2 ⟨fun h7=>(hk g he).1 (hin g h7),h6⟩
  .exact ZaS
  .exact ZaB
 .show ({ q.pure with L8:=acc.map (·.toaD) } :aE)=_
  have e1:q.L8.map (·.toaD)=p.pure.L8:=congrArg aE.L8 hQ.2.2.1;rw [ha,rF (je:=(·.id)) (fun y:ao=>y.toaD) (fun _=>rfl),e1,hx,hQ.2.2.1]
def sB (p:af) (id RX:Int) (pa:Option d_) (ops:List dN) (pc:Nat) (w:w_) (b0:Nat) (hwf:(Lit.int j_ id).wf=true) (hop:ops.length<=1048576/\ ∀ o∈ops,o.2.2.2.size<=1048576) (hrow:Row w pa (fk.flat ops)) (qY:p.pure.Small) (h:ap w b0 p):
  k_ J3 92 #[a_ p.cells,i_ j_ id,i_ j_ RX,s_ pa ops.length pc] w fun e w'=>gI w (cB p.pure { p.pure with L8:=bY (·.id) (newP id RX ops) p.pure.L8 }) e w':=by
 have HB:bN (av ((w.alloc (c_ p.cells 46)).alloc (c_ ar 46)) w.heap.size p/\ap ((w.alloc (c_ p.cells 46)).alloc (c_ ar 46)) b0 p/\B_ w.heap.size w ((w.alloc (c_ p.cells 46)).alloc (c_ ar 46))/\((w.alloc (c_ p.cells 46)).alloc (c_ ar 46)).heap[w.heap.size+1]? =o_ (c_ ar 46)):=by
  have b1:B_ w.heap.size w ((w.alloc (c_ p.cells 46)).alloc (c_ ar 46)):=dT _ _ _;exact ⟨(cZ _ _ _).1,h.below b1,b1,(cZ _ _ _).2⟩
 have fl:bN (p.Fit/\(∀ x∈p.L8,x.dX)/\p.pure.Small/\(Lit.int j_ id).wf=true):=⟨dV qY,fun x hx=>(cY qY hx).1,qY,hwf⟩
 have tc:bN ((ops.length<=1048576/\ ∀ o∈ops,o.2.2.2.size<=1048576)/\Row w pa (fk.flat ops)):=⟨hop,hrow⟩
 have hpl:p.L8.length<=1048576:=fl.I.1.short.L8;have pd: ∀ g∈p.Mc,g < w.heap.size:=fun g hg=>(h.lt g hg).2
 clear h qY hwf hop hrow;obtain ⟨m0,m1,m2,m3,m4,m5,m6,m7⟩:=HB.I.1.cells;unfold af.cells at *
 go_enter func92,ntmps92
 go_wp2_with fail;generalize (w.alloc (c_ p.row 46)).alloc (c_ ar 46)=W at *;clear m0 m1 m2 m3 m4 m5 m6 m7;refine (fR p W fl.I.1 fl.I.2.1 HB.I.2.1.at).mono ?_;rintro e W1 ⟨q,rfl,hown,gn,hb1⟩;have hb2:B_ W1.heap.size W1 (W1.alloc (c_ q.cells 46)):=(Kp _ _).alloc (Ki _) _;have hlt:w.heap.size+1 < W.heap.size:=(J2.1 HB.I.2.2.2).1;have hq1: ∀ g∈q.Mc,g < W1.heap.size:=fun g hg=>(hown.lt g hg).2
 have hql:q.L8.length<=1048576:=by have e1:=congrArg (fun z=>z.L8.length) gn; simp only [af.pure,KG] at e1; omega
 have hs2:(W1.alloc (c_ q.cells 46)).heap.size=W1.heap.size+1:=by simp
 have hb3:B_ (W1.heap.size+1) (W1.alloc (c_ q.cells 46)) ((W1.alloc (c_ q.cells 46)).alloc (c_ #[] 217)):=by rw [<- hs2]; exact (Kp _ _).alloc (Ki _) _
 have hbW:B_ w.heap.size w ((W1.alloc (c_ q.cells 46)).alloc (c_ #[] 217)):=HB.I.2.2.1.trans ((hb1.trans ((hb2.trans (hb3.mono zw)).mono hb1.size)).mono HB.I.2.2.1.size);obtain ⟨xa,xc,w4,hap,ho4,hg4,-⟩:=Gg ((W1.alloc (c_ q.cells 46)).alloc (c_ #[] 217)) (W1.heap.size+1) (W1.heap.size+1) (by have h5:=Kj (W1.alloc (c_ q.cells 46)) (c_ #[] 217); rw [hs2] at h5; exact h5) (Ki _) pa ops pc (tc.I.2.below hbW) tc.I.1.1 (by have:=hb3.size; omega);have hb4:B_ (W1.heap.size+1) (W1.alloc (c_ q.cells 46)) w4:=hb3.grown hg4 (by have:=hb3.size; omega) fun c e=>by cases e; exact Ki _
 have anE:W1.heap.size+1<=w4.heap.size:=by have:=hb4.size; omega
 have iJ:B_ (W1.heap.size+1) (W1.alloc (c_ q.cells 46)) (w4.alloc (c_ #[i_ j_ id,i_ j_ RX,s_ xa ops.length xc,i_ j_ 0,i_ j_ 0,i_ j_ 0,i_ j_ 0,i_ j_ 0,t_ ⟨#[]⟩,t_ ⟨#[]⟩,i_ j_ 0,i_ j_ 0] 125)):=hb4.alloc anE _;have jQ:B_ W1.heap.size W1 (w4.alloc (c_ #[i_ j_ id,i_ j_ RX,s_ xa ops.length xc,i_ j_ 0,i_ j_ 0,i_ j_ 0,i_ j_ 0,i_ j_ 0,t_ ⟨#[]⟩,t_ ⟨#[]⟩,i_ j_ 0,i_ j_ 0] 125)):=hb2.trans (iJ.mono zw);have gh:B_ W.heap.size W (w4.alloc (c_ #[i_ j_ id,i_ j_ RX,s_ xa ops.length xc,i_ j_ 0,i_ j_ 0,i_ j_ 0,i_ j_ 0,i_ j_ 0,t_ ⟨#[]⟩,t_ ⟨#[]⟩,i_ j_ 0,i_ j_ 0] 125)):=hb1.trans (jQ.mono hb1.size);have HX:bN ((w4.alloc (c_ #[i_ j_ id,i_ j_ RX,s_ xa ops.length xc,i_ j_ 0,i_ j_ 0,i_ j_ 0,i_ j_ 0,i_ j_ 0,t_ ⟨#[]⟩,t_ ⟨#[]⟩,i_ j_ 0,i_ j_ 0] 125)).heap[w4.heap.size]? =o_ (c_ #[i_ j_ id,i_ j_ RX,s_ xa ops.length xc,i_ j_ 0,i_ j_ 0,i_ j_ 0,i_ j_ 0,i_ j_ 0,t_ ⟨#[]⟩,t_ ⟨#[]⟩,i_ j_ 0,i_ j_ 0] 125)/\aR.cO (w4.alloc (c_ #[i_ j_ id,i_ j_ RX,s_ xa ops.length xc,i_ j_ 0,i_ j_ 0,i_ j_ 0,i_ j_ 0,i_ j_ 0,t_ ⟨#[]⟩,t_ ⟨#[]⟩,i_ j_ 0,i_ j_ 0] 125)) (W1.heap.size+1) (⟨newP id RX ops,xa,xc⟩:ao)/\w4.heap.size < (w4.alloc (c_ #[i_ j_ id,i_ j_ RX,s_ xa ops.length xc,i_ j_ 0,i_ j_ 0,i_ j_ 0,i_ j_ 0,i_ j_ 0,t_ ⟨#[]⟩,t_ ⟨#[]⟩,i_ j_ 0,i_ j_ 0] 125)).heap.size):=⟨Kj _ _,cR ho4 ((Kp _ _).alloc (Ki _) _),by simp⟩
 have HQ:bN (av (w4.alloc (c_ #[i_ j_ id,i_ j_ RX,s_ xa ops.length xc,i_ j_ 0,i_ j_ 0,i_ j_ 0,i_ j_ 0,i_ j_ 0,t_ ⟨#[]⟩,t_ ⟨#[]⟩,i_ j_ 0,i_ j_ 0] 125)) W1.heap.size q/\ap (w4.alloc (c_ #[i_ j_ id,i_ j_ RX,s_ xa ops.length xc,i_ j_ 0,i_ j_ 0,i_ j_ 0,i_ j_ 0,i_ j_ 0,t_ ⟨#[]⟩,t_ ⟨#[]⟩,i_ j_ 0,i_ j_ 0] 125)) W.heap.size q/\q.pure=p.pure/\(∀ g∈q.Mc,g < W1.heap.size)/\W.heap.size<=W1.heap.size/\w.heap.size+1 < W.heap.size/\W1.heap.size < (w4.alloc (c_ #[i_ j_ id,i_ j_ RX,s_ xa ops.length xc,i_ j_ 0,i_ j_ 0,i_ j_ 0,i_ j_ 0,i_ j_ 0,t_ ⟨#[]⟩,t_ ⟨#[]⟩,i_ j_ 0,i_ j_ 0] 125)).heap.size):=⟨(iJ.block _ zw).trans (Kj _ _),hown.below jQ,gn,hq1,hb1.size,hlt,by have:=iJ.size; omega⟩
 replace HB:bN (av (w4.alloc (c_ #[i_ j_ id,i_ j_ RX,s_ xa ops.length xc,i_ j_ 0,i_ j_ 0,i_ j_ 0,i_ j_ 0,i_ j_ 0,t_ ⟨#[]⟩,t_ ⟨#[]⟩,i_ j_ 0,i_ j_ 0] 125)) w.heap.size p/\ap (w4.alloc (c_ #[i_ j_ id,i_ j_ RX,s_ xa ops.length xc,i_ j_ 0,i_ j_ 0,i_ j_ 0,i_ j_ 0,i_ j_ 0,t_ ⟨#[]⟩,t_ ⟨#[]⟩,i_ j_ 0,i_ j_ 0] 125)) b0 p/\B_ w.heap.size w (w4.alloc (c_ #[i_ j_ id,i_ j_ RX,s_ xa ops.length xc,i_ j_ 0,i_ j_ 0,i_ j_ 0,i_ j_ 0,i_ j_ 0,t_ ⟨#[]⟩,t_ ⟨#[]⟩,i_ j_ 0,i_ j_ 0] 125))/\(w4.alloc (c_ #[i_ j_ id,i_ j_ RX,s_ xa ops.length xc,i_ j_ 0,i_ j_ 0,i_ j_ 0,i_ j_ 0,i_ j_ 0,t_ ⟨#[]⟩,t_ ⟨#[]⟩,i_ j_ 0,i_ j_ 0] 125)).heap[w.heap.size+1]? =o_ (c_ ar 46)):=⟨HB.I.1.below gh,HB.I.2.1.below gh,HB.I.2.2.1.trans (gh.mono HB.I.2.2.1.size),(gh.block _ hlt).trans HB.I.2.2.2⟩
 have Au:bN (∀ g∈p.Mc,g < w.heap.size):=fun g hg=>pd g hg
 clear hown gn hb1 hb2 hb3 hb4 iJ jQ gh hbW hq1 hlt pd ho4 hg4 hs2 anE;have En:bN (ng bg 125 (w4.alloc (c_ #[i_ j_ id,i_ j_ RX,s_ xa ops.length xc,i_ j_ 0,i_ j_ 0,i_ j_ 0,i_ j_ 0,i_ j_ 0,t_ ⟨#[]⟩,t_ ⟨#[]⟩,i_ j_ 0,i_ j_ 0] 125)) ((w4.alloc (c_ #[i_ j_ id,i_ j_ RX,s_ xa ops.length xc,i_ j_ 0,i_ j_ 0,i_ j_ 0,i_ j_ 0,i_ j_ 0,t_ ⟨#[]⟩,t_ ⟨#[]⟩,i_ j_ 0,i_ j_ 0] 125)).alloc (c_ #[] 125)) [] (o_ ⟨(w4.alloc (c_ #[i_ j_ id,i_ j_ RX,s_ xa ops.length xc,i_ j_ 0,i_ j_ 0,i_ j_ 0,i_ j_ 0,i_ j_ 0,t_ ⟨#[]⟩,t_ ⟨#[]⟩,i_ j_ 0,i_ j_ 0] 125)).heap.size,0,n_⟩) 0):=ng.start;have Hw:(w4.alloc (c_ #[i_ j_ id,i_ j_ RX,s_ xa ops.length xc,i_ j_ 0,i_ j_ 0,i_ j_ 0,i_ j_ 0,i_ j_ 0,t_ ⟨#[]⟩,t_ ⟨#[]⟩,i_ j_ 0,i_ j_ 0] 125)).heap.size=w4.heap.size+1:=by simp
 have HW:bN ((w4.alloc (c_ #[i_ j_ id,i_ j_ RX,s_ xa ops.length xc,i_ j_ 0,i_ j_ 0,i_ j_ 0,i_ j_ 0,i_ j_ 0,t_ ⟨#[]⟩,t_ ⟨#[]⟩,i_ j_ 0,i_ j_ 0] 125)).heap.size=w4.heap.size+1):=Hw;clear Hw;unfold af.cells at *;go_wp2_with (at_builtin; refine br _ rfl _ _ 123 rfl _ _ _ _ rfl rfl hap ?_; clear hap);generalize w4.alloc (c_ #[i_ j_ id,i_ j_ RX,s_ xa ops.length xc,i_ j_ 0,i_ j_ 0,i_ j_ 0,i_ j_ 0,i_ j_ 0,t_ ⟨#[]⟩,t_ ⟨#[]⟩,i_ j_ 0,i_ j_ 0] 125)=W2 at *;generalize W1.heap.size=o at *;generalize w4.heap.size=xb at *
 go_loopw [12,13,14] (fun l d i wr=> ∃ (k:Nat) (dn:Bool) (acc:List ao) (a:Option d_) (c:Nat),k<=q.L8.length/\i=i_ j_ k/\d=b_ dn/\l=s_ a acc.length c/\bN (ng bg 125 W2 wr acc a c/\gY (fun y:ao=>y.id) (⟨newP id RX ops,xa,xc⟩:ao) q.L8 k dn acc)) (fun _ _ i _=>q.L8.length - (Go.RowKit.intOf i).toNat)
 case atStart=>exact ⟨0,false,[],o_ ⟨W2.heap.size,0,n_⟩,0,Ky _,rfl,rfl,by rw [HW.I]; rfl,⟨En.I,gY.start _ _⟩⟩
 case round=>
  obtain ⟨k,dn,acc,a,c,hk,rfl,rfl,rfl,HA⟩:=hrel;have i0:(0:Int)<=(k:Int):=zw
  have hbr:=HA.I.1.cd;have hal:=HA.I.2.le;have ajP:wr.cell? ⟨o,2,n_⟩=o_ (s_ q.aN q.L8.length q.aW):=(HQ.I.1.below hbr).cells.2.2.1;by_cases hlt:k < q.L8.length
  .have i1:(k:Int) < (q.L8.length:Int):=zw
   obtain ⟨y,hy⟩: ∃ y,q.L8[k]? =o_ y:=⟨_,Kz hlt⟩
   have HY:bN (q.L8[k]? =o_ y):=hy;obtain ⟨g,ha,hat⟩:=cn (HQ.I.2.1.below hbr).at.1 hy;rw [ha] at ajP;obtain ⟨d0,d1,d2,d3,d4,d5,d6,d7,d8,d9,tH,tS⟩:=hat;have HG:bN (q.aN=o_ ⟨g,0,n_⟩):=ha;clear ha hy;obtain ⟨a5,c5,w5,hap,rL⟩:=HA.I.1.add 39 128 (P:=J3) underlying39 nb rfl (by decide) (by decide) y y.row rfl rB zw;have F5:bN (ng bg 125 W2 w5 (acc ++ [y]) a5 c5):=rL;clear rL;cases dn;rotate_left
   .go_wp2_with (at_builtin; first | (refine br _ rfl _ _ 39 rfl _ _ _ _ rfl rfl hap ?_; clear hap))
    exact N_
   by_cases hc:id < y.id;rotate_left
   .have HC:bN (¬ id < y.id):=hc
    go_wp2_with (at_builtin; first | (refine br _ rfl _ _ 39 rfl _ _ _ _ rfl rfl hap ?_; clear hap))
    exact Zan
   clear hap F5 a5 c5 w5;have HC:bN (id < y.id):=hc;obtain ⟨a5,c5,w5,hap,rL⟩:=HA.I.1.add 39 128 (P:=J3) underlying39 nb rfl (by decide) (by decide) (⟨newP id RX ops,xa,xc⟩:ao) #[i_ j_ id,i_ j_ RX,s_ xa ops.length xc,i_ j_ 0,i_ j_ 0,i_ j_ 0,i_ j_ 0,i_ j_ 0,t_ ⟨#[]⟩,t_ ⟨#[]⟩,i_ j_ 0,i_ j_ 0] rfl rB zw;obtain ⟨a7,c7,w7,gT,mI⟩:=rL.add 39 128 (P:=J3) underlying39 nb rfl (by decide) (by decide) y y.row rfl rB ZbZ;rw [Lf] at gT;simp only [Lg,K4,Li] at gT;have HL7:bN (ng bg 125 W2 w7 (acc ++ [(⟨newP id RX ops,xa,xc⟩:ao)] ++ [y]) a7 c7):=mI;have mo5:w5.cell? ⟨o,2,n_⟩=o_ (s_ q.aN q.L8.length q.aW):=(HQ.I.1.below rL.cd).cells.2.2.1;obtain ⟨g2,ha2,g8⟩:=cn (HQ.I.2.1.below rL.cd).at.1 HY.I;rw [HG.I] at ha2 mo5;cases ha2;obtain ⟨e0,e1,e2,e3,e4,e5,e6,e7,e8,e9,Pn,e11⟩:=g8;obtain ⟨x0,x1,x2,x3,x4,x5,x6,x7,x8,x9,x10,Dm⟩:=bo (x:=(⟨newP id RX ops,xa,xc⟩:ao)) (X:=xb) (W:=wr) ((hbr.block _ HX.I.2.2).trans HX.I.1);clear rL mI;go_wp2_with (at_builtin; first | (refine br _ rfl _ _ 39 rfl _ _ _ _ rfl rfl hap ?_; clear hap) | (refine br _ rfl _ _ 39 rfl _ _ _ _ rfl rfl gT ?_; clear gT))
   go_round
   case rel=>exact ⟨k+1,true,acc ++ [(⟨newP id RX ops,xa,xc⟩:ao)] ++ [y],a7,c7,zw,by go_num,rfl,by simp,⟨HL7.I,HA.I.2.here HY.I HC.I⟩⟩
   case measure=>simp [Go.RowKit.intOf]; omega
  have i1: ¬ (k:Int) < (q.L8.length:Int):=zw
  cases dn
  .obtain ⟨a9,c9,w9,hap,Jy⟩:=HA.I.1.add 39 128 (P:=J3) underlying39 nb rfl (by decide) (by decide) (⟨newP id RX ops,xa,xc⟩:ao) #[i_ j_ id,i_ j_ RX,s_ xa ops.length xc,i_ j_ 0,i_ j_ 0,i_ j_ 0,i_ j_ 0,i_ j_ 0,t_ ⟨#[]⟩,t_ ⟨#[]⟩,i_ j_ 0,i_ j_ 0] rfl rB zw
   have HR:bN (ng bg 125 W2 w9 (acc ++ [(⟨newP id RX ops,xa,xc⟩:ao)]) a9 c9/\acc ++ [(⟨newP id RX ops,xa,xc⟩:ao)] =bY (fun y:ao=>y.id) (⟨newP id RX ops,xa,xc⟩:ao) q.L8/\(acc ++ [(⟨newP id RX ops,xa,xc⟩:ao)]).length=acc.length+1):=⟨Jy,HA.I.2.last hlt,by simp⟩
   obtain ⟨x0,x1,x2,x3,x4,x5,x6,x7,x8,x9,x10,Dm⟩:=bo (x:=(⟨newP id RX ops,xa,xc⟩:ao)) (X:=xb) (W:=wr) ((hbr.block _ HX.I.2.2).trans HX.I.1);clear Jy;have eX:bN (_):=DQ HB.I HQ.I Au.I HR.I.1 HR.I.2.1 HR.I.2.2 rfl (fun g hg=>by have h5:=(HX.I.2.1.lt hg).1; exact ⟨fun h6=>by have:=HQ.I.2.2.2.1 g h6; omega,zw⟩) (HX.I.2.1.low (by have:=HQ.I.2.2.2.2.1; omega));have Mb:=fi p ({ q with L8:=(acc ++ [(⟨newP id RX ops,xa,xc⟩:ao)]),aN:=a9,aW:=c9 } :af) (w9.setCell ⟨o,2,n_⟩ (s_ a9 (acc.length+1) c9)) ⟨fl.I.1,fl.I.2.1,eX.I.1.2.1.at⟩ (fun hr=>by
    have h5:aE.Small ({ q with L8:=(acc ++ [(⟨newP id RX ops,xa,xc⟩:ao)]),aN:=a9,aW:=c9 } :af).pure:=by rw [eX.I.2.2.2]; exact pO fl.I.2.2.1 hr tc.I.1 fl.I.2.2.2
    exact ⟨dV h5,fun x hx=>(cY h5 hx).1,eX.I.2.2.1.at⟩)
   obtain ⟨m0,m1,m2,m3,m4,m5,m6,m7⟩:=eX.I.1.1.cells;obtain ⟨k0,k1,k2,k3,k4,k5,k6,k7⟩:=eX.I.2.1.cells;obtain ⟨⟨u,co⟩,fo⟩:(∃ u,w9.cell? ⟨o,2,n_⟩=o_ u)/\w9.frozen? ⟨o,2,n_⟩=false:=⟨⟨_,(HQ.I.1.below HR.I.1.cd).cells.2.2.1⟩,Ko _ _ _ _ _ (HQ.I.1.below HR.I.1.cd)⟩
   unfold af.cells at Mb;have sR:=HR.I.2.2;simp only [sR] at Mb k0 k1 k2 k3 k4 k5 k6 k7;clear sR;go_wp2_with (at_builtin; first | (refine br _ rfl _ _ 39 rfl _ _ _ _ rfl rfl hap ?_; clear hap));refine Mb.mono ?_;clear Mb m0 m1 m2 m3 m4 m5 m6 m7 k0 k1 k2 k3 k4 k5 k6 k7;rintro e ow ⟨gy,hok⟩;have hq:=HQ.I.2.2.2.2;have HZ:bN (B_ w.heap.size w ow/\ow.heap[w.heap.size+1]? =o_ (c_ ar 46)/\ap ow W.heap.size ({ q with L8:=(acc ++ [(⟨newP id RX ops,xa,xc⟩:ao)]),aN:=a9,aW:=c9 } :af)/\w.heap.size+1 < W.heap.size):=⟨eX.I.1.2.2.1.trans (gy.mono eX.I.1.2.2.1.size),(gy.block _ (J2.1 eX.I.1.2.2.2).1).trans eX.I.1.2.2.2,eX.I.2.2.1.below gy,hq.2.1⟩
   clear gy hq;rw [eX.I.2.2.2] at hok;rcases hok with ⟨hok,rfl⟩ | ⟨hok,rfl⟩
   .have HN:bN (cB p.pure { p.pure with L8:=bY (·.id) (newP id RX ops) p.pure.L8 } =o_ { p.pure with L8:=bY (·.id) (newP id RX ops) p.pure.L8 }):=jS hok
    clear hok;go_wp2_with (refine ec _ _ #[i_ j_ q.id,i_ j_ q.next,s_ a9 (acc.length+1) c9,s_ q.bc q.aj.length q.bF,s_ q.ay q.L9.length q.aO,s_ q.ax q.ag.length q.aP,s_ q.am q.ae.length q.aG,s_ q.aK q.ai.length q.aV] HZ.I.2.1 ?_);refine mG results92 (b_ true) HZ.I.2.1 ?_;have hl:=HZ.I.2.2.2;rw [HN.I];refine ⟨({ q with L8:=(acc ++ [(⟨newP id RX ops,xa,xc⟩:ao)]),aN:=a9,aW:=c9 } :af),by unfold af.cells; simp only [HR.I.2.2]; rfl,(HZ.I.2.2.1.lower zw).same fun g hg=>KH _ _ _ _ Zb7,eX.I.2.2.2,kz HZ.I.1 zw _⟩
   .exact ZbK
  .have HR:bN (ng bg 125 W2 wr acc a c/\acc=bY (fun y:ao=>y.id) (⟨newP id RX ops,xa,xc⟩:ao) q.L8/\acc.length=acc.length):=⟨HA.I.1,HA.I.2.done hlt,rfl⟩
   have eX:bN (_):=DQ HB.I HQ.I Au.I HR.I.1 HR.I.2.1 HR.I.2.2 rfl (fun g hg=>by have h5:=(HX.I.2.1.lt hg).1; exact ⟨fun h6=>by have:=HQ.I.2.2.2.1 g h6; omega,zw⟩) (HX.I.2.1.low (by have:=HQ.I.2.2.2.2.1; omega));have Mb:=fi p ({ q with L8:=acc,aN:=a,aW:=c } :af) (wr.setCell ⟨o,2,n_⟩ (s_ a acc.length c)) ⟨fl.I.1,fl.I.2.1,eX.I.1.2.1.at⟩ (fun hr=>by
    have h5:aE.Small ({ q with L8:=acc,aN:=a,aW:=c } :af).pure:=by rw [eX.I.2.2.2]; exact pO fl.I.2.2.1 hr tc.I.1 fl.I.2.2.2
    exact ⟨dV h5,fun x hx=>(cY h5 hx).1,eX.I.2.2.1.at⟩)
   obtain ⟨m0,m1,m2,m3,m4,m5,m6,m7⟩:=eX.I.1.1.cells;obtain ⟨k0,k1,k2,k3,k4,k5,k6,k7⟩:=eX.I.2.1.cells;obtain ⟨⟨u,co⟩,fo⟩:(∃ u,wr.cell? ⟨o,2,n_⟩=o_ u)/\wr.frozen? ⟨o,2,n_⟩=false:=⟨⟨_,(HQ.I.1.below HR.I.1.cd).cells.2.2.1⟩,Ko _ _ _ _ _ (HQ.I.1.below HR.I.1.cd)⟩
   unfold af.cells at Mb;simp only at Mb k0 k1 k2 k3 k4 k5 k6 k7;go_wp2_with fail;refine Mb.mono ?_;clear Mb m0 m1 m2 m3 m4 m5 m6 m7 k0 k1 k2 k3 k4 k5 k6 k7;rintro e ow ⟨gy,hok⟩;have hq:=HQ.I.2.2.2.2;have HZ:bN (B_ w.heap.size w ow/\ow.heap[w.heap.size+1]? =o_ (c_ ar 46)/\ap ow W.heap.size ({ q with L8:=acc,aN:=a,aW:=c } :af)/\w.heap.size+1 < W.heap.size):=⟨eX.I.1.2.2.1.trans (gy.mono eX.I.1.2.2.1.size),(gy.block _ (J2.1 eX.I.1.2.2.2).1).trans eX.I.1.2.2.2,eX.I.2.2.1.below gy,hq.2.1⟩
   clear gy hq;rw [eX.I.2.2.2] at hok;rcases hok with ⟨hok,rfl⟩ | ⟨hok,rfl⟩
   .have HN:bN (cB p.pure { p.pure with L8:=bY (·.id) (newP id RX ops) p.pure.L8 } =o_ { p.pure with L8:=bY (·.id) (newP id RX ops) p.pure.L8 }):=jS hok
    clear hok;go_wp2_with (refine ec _ _ #[i_ j_ q.id,i_ j_ q.next,s_ a acc.length c,s_ q.bc q.aj.length q.bF,s_ q.ay q.L9.length q.aO,s_ q.ax q.ag.length q.aP,s_ q.am q.ae.length q.aG,s_ q.aK q.ai.length q.aV] HZ.I.2.1 ?_);refine mG results92 (b_ true) HZ.I.2.1 ?_;have hl:=HZ.I.2.2.2;rw [HN.I];refine ⟨({ q with L8:=acc,aN:=a,aW:=c } :af),by rfl,(HZ.I.2.2.1.lower zw).same fun g hg=>KH _ _ _ _ Zb7,eX.I.2.2.2,kz HZ.I.1 zw _⟩
   .exact ZbK
end
section
def pU {p:aE} {x:dS} (h:p.Small) (hr:bK p=true) (hx:(Lit.int j_ x.id).wf=true/\x.Ma.length<=1048576/\ ∀ s∈x.Ma,s.size<=1048576):aE.Small { p with ai:=bY (·.id) x p.ai } :=by
 have h2:=((ch _).1 hr).dH;exact ⟨h.dl,h.fx,h.cD,h.cC,h.cb,by show (bY (·.id) x p.ai).length<=_; rw [er]; omega,h.L8,h.aj,h.L9,h.ag,h.ae,fun y hy=>(fq.1 hy).elim (fun e=>e ▸ hx) (h.ai y)⟩
end
section
open Go.Maps
def pX (w:w_) (bi:Nat) (a0:Option d_) (c0:Nat) (l0:List az) (ho:w.ownsRow bi 134 3 (s_ a0 l0.length c0) l0.length (bG.flat l0)) (a:Option d_) (l:List az) (cap:Nat) (h:ld w a (bG.flat l)) (hl:l0.length+l.length<=4000000) (lY:bi<=w.heap.size):
  ∃ a' cap' w',(Builtin.append_ #[42,42] 42 #[s_ a0 l0.length c0,s_ a l.length cap]).run J3 w= .ok (s_ a' (l0.length+l.length) cap') w'/\w'.ownsRow bi 134 3 (s_ a' (l0.length+l.length) cap') (l0.length+l.length) (bG.flat (l0 ++ l))/\w.grownBy w' (Value.slice a0 l0.length c0).ownBlock/\ ∀ g∈blk a',g∈blk a0\/g=w.heap.size:=by
 obtain ⟨i,hi,e⟩:=Kw.1 sj;simp only [Kx] at e;rw [bG.dc];exact jD w bi _ _ 134 i _ 3 32 underlying42 hi e.1 e.2.1 e.2.2 rfl (by decide) a0 l0.length c0 _ ho a l.length cap _ h (bG.dM l) xV hl (by decide) lY
def ap.GV {w w':w_} {bi B:Nat} {q:af} {l:List az} {a':Option d_} {c':Nat} (h:ap w bi q) (hb:bi<=B) (hB: ∀ g∈q.Mc,g < B) (hs: ∀ g∈q.Mc,w'.heap[g]? =w.heap[g]?)
  (ho:w'.ownsRow B 134 3 (s_ a' l.length c') l.length (bG.flat l)):ap w' bi ({ q with ag:=l,ax:=a',aP:=c' } :af):=by
 refine ⟨aL h.L8 fun g hg=>hs g Zb1,aL h.aj fun g hg=>hs g Zb1,aL h.L9 fun g hg=>hs g Zb1,cq ho hb,aL h.ae fun g hg=>hs g Zb1,aL h.ai fun g hg=>hs g Zb1,fun x hx=>(h.eI x hx).same fun g hg=>hs g ?_,fun x hx=>(h.eE x hx).same fun g hg=>hs g ?_,fun x hx=>(h.eR x hx).same fun g hg=>hs g ?_,?_⟩
 .exact Zab
 .exact I_
 .exact CE
 .have h5:=h.nodup
  have h6: ∀ g∈blk a',g∉q.Mc:=fun g hg hm=>by have:=(cf ho hg).1; have:=hB g hm; omega
  have e1: ∀ (a2:Option d_) (l2:List az) (c2:Nat),({ q with ag:=l2,ax:=a2,aP:=c2 } :af).Mc=(blk q.aN ++ (q.L8.filterMap aR.bt ++ (blk q.bc ++ blk q.ay))) ++ (blk a2 ++ (blk q.am ++ (q.ae.filterMap aC.bt ++ (blk q.aK ++ q.ai.filterMap aU.bt)))):=fun _ _ _=>by simp [af.Mc]
  have e2:=e1 q.ax q.ag q.aP;rw [e1];have e3:q.Mc=(blk q.aN ++ (q.L8.filterMap aR.bt ++ (blk q.bc ++ blk q.ay))) ++ (blk q.ax ++ (blk q.am ++ (q.ae.filterMap aC.bt ++ (blk q.aK ++ q.ai.filterMap aU.bt)))):=e2;rw [e3] at h5 h6;exact qv h5 (fN _) h6
def qu (w:w_) (bi:Nat) (a0:Option d_) (c0:Nat) (l0:List aB) (ho:w.ownsRow bi 131 2 (s_ a0 l0.length c0) l0.length (bJ.flat l0)) (a:Option d_) (l:List aB) (cap:Nat) (h:ld w a (bJ.flat l)) (hl:l0.length+l.length<=4000000) (lY:bi<=w.heap.size):
  ∃ a' cap' w',(Builtin.append_ #[41,41] 41 #[s_ a0 l0.length c0,s_ a l.length cap]).run J3 w= .ok (s_ a' (l0.length+l.length) cap') w'/\w'.ownsRow bi 131 2 (s_ a' (l0.length+l.length) cap') (l0.length+l.length) (bJ.flat (l0 ++ l))/\w.grownBy w' (Value.slice a0 l0.length c0).ownBlock/\ ∀ g∈blk a',g∈blk a0\/g=w.heap.size:=by
 obtain ⟨i,hi,e⟩:=Kw.1 so;simp only [Kx] at e;rw [bJ.dc];exact jD w bi _ _ 131 i _ 2 16 underlying41 hi e.1 e.2.1 e.2.2 rfl (by decide) a0 l0.length c0 _ ho a l.length cap _ h (bJ.dM l) xB hl (by decide) lY
def ap.Ge {w w':w_} {bi B:Nat} {q:af} {l:List aB} {a':Option d_} {c':Nat} (h:ap w bi q) (hb:bi<=B) (hB: ∀ g∈q.Mc,g < B) (hs: ∀ g∈q.Mc,w'.heap[g]? =w.heap[g]?)
  (ho:w'.ownsRow B 131 2 (s_ a' l.length c') l.length (bJ.flat l)):ap w' bi ({ q with L9:=l,ay:=a',aO:=c' } :af):=by
 refine ⟨aL h.L8 fun g hg=>hs g Zb1,aL h.aj fun g hg=>hs g Zb1,cq ho hb,aL h.ag fun g hg=>hs g Zb1,aL h.ae fun g hg=>hs g Zb1,aL h.ai fun g hg=>hs g Zb1,fun x hx=>(h.eI x hx).same fun g hg=>hs g ?_,fun x hx=>(h.eE x hx).same fun g hg=>hs g ?_,fun x hx=>(h.eR x hx).same fun g hg=>hs g ?_,?_⟩
 .exact Zab
 .exact I_
 .exact CE
 .have h5:=h.nodup
  have h6: ∀ g∈blk a',g∉q.Mc:=fun g hg hm=>by have:=(cf ho hg).1; have:=hB g hm; omega
  have e1: ∀ (a2:Option d_) (l2:List aB) (c2:Nat),({ q with L9:=l2,ay:=a2,aO:=c2 } :af).Mc=(blk q.aN ++ (q.L8.filterMap aR.bt ++ blk q.bc)) ++ (blk a2 ++ (blk q.ax ++ (blk q.am ++ (q.ae.filterMap aC.bt ++ (blk q.aK ++ q.ai.filterMap aU.bt))))):=fun _ _ _=>by simp [af.Mc]
  have e2:=e1 q.ay q.L9 q.aO;rw [e1];have e3:q.Mc=(blk q.aN ++ (q.L8.filterMap aR.bt ++ blk q.bc)) ++ (blk q.ay ++ (blk q.ax ++ (blk q.am ++ (q.ae.filterMap aC.bt ++ (blk q.aK ++ q.ai.filterMap aU.bt))))):=e2;rw [e3] at h5 h6;exact qv h5 (fN _) h6
end
section
def vR {p:aE} {x:az} (h:p.Small) (hr:bK p=true) (hx:(Lit.int j_ x.id).wf=true/\x.text.size<=1048576):aE.Small { p with ag:=cA (·.id) x p.ag } :=by
 have h2:=((ch _).1 hr).cC;exact ⟨h.dl,h.fx,h.cD,by show (cA (·.id) x p.ag).length<=_; rw [eJ]; omega,h.cb,h.dH,h.L8,h.aj,h.L9,fun y hy=>(js.1 hy).elim (fun e=>e ▸ hx) (h.ag y),h.ae,h.ai⟩
def vS {p:aE} {x:aB} (h:p.Small) (hr:bK p=true) (hx:(Lit.int j_ x.id).wf=true):aE.Small { p with L9:=cA (·.id) x p.L9 } :=by
 have h2:=((ch _).1 hr).cD;exact ⟨h.dl,h.fx,by show (cA (·.id) x p.L9).length<=_; rw [eJ]; omega,h.cC,h.cb,h.dH,h.L8,h.aj,fun y hy=>(js.1 hy).elim (fun e=>e ▸ hx) (h.L9 y),h.ag,h.ae,h.ai⟩
end
section
open Go Go.RowKit
def aaH (a:Act) (v:v_):a.put n_ v=a:=rfl
def oc (cs:Array v_) (T:T_) (X:Nat) (W:w_):Prop:=W.heap[X]? =o_ (c_ cs T)
section
variable {cs:Array v_} {T:T_} {X:Nat} {W W':w_} {bs:List Nat}
def oc.lt (h:oc cs T X W):X < W.heap.size:=(J2.1 h).1
def oc.below (h:oc cs T X W) (hb:B_ W.heap.size W W'):oc cs T X W':=(hb.block _ h.lt).trans h
def oc.kept (h:oc cs T X W) (hk:aI W W' bs) (hs:X∉bs):oc cs T X W':=(hk.same _ h.lt hs).trans h
end
def Y5 {α : Type} {l : List α} {i : Nat} (h : i < l.toArray.size) : l.toArray[i]'h = l[i]'(by simpa using h) := by simp
def gs {α : Type} {a : α} {l : List α} {i : Nat} (h : i + 1 < (a :: l).length) : (a :: l)[i + 1]'h = l[i]'(Nat.lt_of_succ_lt_succ h) := rfl
section
variable {p q:af} {w W U V:w_} {B X b:Nat} {cs:Array v_} {T:T_} {Y:Prop}
end
end
end Go.Proofs.YtckenjkcmajicaaGreat
