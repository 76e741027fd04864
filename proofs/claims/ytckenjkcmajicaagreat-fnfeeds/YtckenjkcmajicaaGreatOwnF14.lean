/- What the proof leans on, part 14. -/
import Derived.Test.YtckenjkcmajicaaGreatOwnF10
import Derived.LaidEql
set_option linter.all false
set_option maxRecDepth 100000
set_option maxHeartbeats 8000000
open Go.Proofs.Tryz
open Go renaming World->w_,Value->v_,Calls->k_,Addr->d_,TypeId->T_
open Go.Ending renaming returned->r_
open Go.IntKind renaming i64->j_
open Go.Obj renaming cells->c_
open Go.RowKit renaming Below->B_,Hid->bN
open Go.Value renaming int->i_,slice->s_,bool->b_,agg->a_,pointer->p_,tuple->u_
open Option renaming some->o_,none->n_
open Go renaming run_underlying->T0
open Go.Proofs.Tryz renaming prog->J3
open List renaming flatMap_append->aej,pairwise_append->aeB

namespace Go.Proofs.YtckenjkcmajicaaGreat
section
open Go.RowKit Go.Maps
attribute [local go_sem ↓] Go.wp_at_zero Go.wp_at_succ
def gg {W:w_} {X:Nat} {x:aM} (h:W.heap[X]? =o_ (c_ (cW x) 51)):W.cell? ⟨X,1,n_⟩=o_ (b_ x.I)/\W.cell? ⟨X,2,n_⟩=o_ (b_ x.Mf):=by
 simp [World.cell?,h,cW]
def TY (X Y:Nat) (x y:aM) (w:w_) (hx:w.heap[X]? =o_ (c_ (cW x) 51)) (hy:w.heap[Y]? =o_ (c_ (cW y) 51)):
  k_ J3 108 #[p_ (o_ ⟨X,0,n_⟩),p_ (o_ ⟨Y,0,n_⟩)] w fun e w'=>e=r_ (b_ (x.I && !y.I && (x.Mf == y.Mf)))/\B_ w.heap.size w w':=by
 have S:bN (w.heap[X]? =o_ (c_ (cW x) 51)/\w.heap[Y]? =o_ (c_ (cW y) 51)/\B_ w.heap.size w w):=⟨hx,hy,Kp _ _⟩
 clear hx hy
 go_enter func108,ntmps108
 go_upto_region 1 with fail;refine aT (fun W=>W.heap[X]? =o_ (c_ (cW x) 51)/\W.heap[Y]? =o_ (c_ (cW y) 51)/\B_ w.heap.size w W) ZbY ⟨S.I.1,S.I.2.1,S.I.2.2.drew⟩ ?_;cases h1:x.I
 .skip
  iterate 5 (refine yl (v:= ?_) ?_ ?_; rotate_left; (intro w0 hS0; obtain ⟨a1,a2⟩:=gg hS0.1; obtain ⟨b1,b2⟩:=gg hS0.2.1; go_simp; try with_reducible rfl); simp only [pt,sb,s0,s1])
  iterate 5 (refine nl ?_; simp only [pt,sb,s0,s1])
  iterate 2 (refine yl (v:= ?_) ?_ ?_; rotate_left; (intro w0 hS0; obtain ⟨a1,a2⟩:=gg hS0.1; obtain ⟨b1,b2⟩:=gg hS0.2.1; go_simp; try with_reducible rfl); simp only [pt,sb,s0,s1])
  iterate 9 (refine nl ?_; simp only [pt,sb,s0,s1])
  iterate 2 (refine yl (v:= ?_) ?_ ?_; rotate_left; (intro w0 hS0; obtain ⟨a1,a2⟩:=gg hS0.1; obtain ⟨b1,b2⟩:=gg hS0.2.1; go_simp; try with_reducible rfl); simp only [pt,sb,s0,s1])
  refine bk ZbY (fun A3 NO=> ?_) _;go_wp2;go_ret;exact ⟨al (by simp [h1]),NO.2.2⟩
 cases h2:y.I
 case true=>
  iterate 12 (refine yl (v:= ?_) ?_ ?_; rotate_left; (intro w0 hS0; obtain ⟨a1,a2⟩:=gg hS0.1; obtain ⟨b1,b2⟩:=gg hS0.2.1; go_simp; try with_reducible rfl); simp only [pt,sb,s0,s1])
  iterate 9 (refine nl ?_; simp only [pt,sb,s0,s1])
  iterate 2 (refine yl (v:= ?_) ?_ ?_; rotate_left; (intro w0 hS0; obtain ⟨a1,a2⟩:=gg hS0.1; obtain ⟨b1,b2⟩:=gg hS0.2.1; go_simp; try with_reducible rfl); simp only [pt,sb,s0,s1])
  exact Zbd
 iterate 23 (refine yl (v:= ?_) ?_ ?_; rotate_left; (intro w0 hS0; obtain ⟨a1,a2⟩:=gg hS0.1; obtain ⟨b1,b2⟩:=gg hS0.2.1; go_simp; try with_reducible rfl); simp only [pt,sb,s0,s1])
 exact Zbd
structure KMap (w:w_) (K b:Nat) (l:List (aZ × Nat)):Prop where
 cell:w.cell? ⟨K,63,n_⟩=o_ (.map (o_ b))
 map:cF w b (l.map fun p=>(p.1.q.id,p.2))
 part: ∀ p∈l,∃ bi,cJ w bi p.2 p.1
def kt (l:List (aZ × Nat)) (part id:Int):Option Nat:=match l.find? (fun p=>p.1.q.id == part) with
 | none=>n_
 | some p=>cz (RW (fun x:aM=>x.id) p.1.lq) id
def Tf (l:List (aZ × Nat)) (k:Int):cz (l.map fun p=>(p.1.q.id,p.2)) k=(l.find? (fun p=>p.1.q.id == k)).map (·.2):=by
 unfold cz;rw [List.find?_map,Option.map_map];rfl
def TQ (w:w_):(zeroValue 59).run J3 w= .ok (p_ n_) w:=by kernel_rfl
def TJ (w:w_):(zeroValue 89).run J3 w= .ok (p_ n_) w:=by kernel_rfl
def TP (K b:Nat) (l:List (aZ × Nat)) (part id:Int) (w:w_) (h:KMap w K b l) (hp:(Lit.int j_ part).wf=true) (hi:(Lit.int j_ id).wf=true):
  k_ J3 107 #[p_ (o_ ⟨K,0,n_⟩),i_ j_ part,i_ j_ id] w fun e w'=>e=r_ (u_ #[qz (kt l part id),b_ (kt l part id).isSome])/\B_ w.heap.size w w':=by
 have c0:=h.cell;have hlk:=h.map.look underlying66 (TQ w) hp true;rw [Tf] at hlk;simp only [if_true] at hlk;cases hf:l.find? (fun p=>p.1.q.id == part) with
 | none=>
  have HP:bN (kt l part id=n_):=by show kt _ _ _=_; unfold kt; rw [hf]
  rw [hf] at hlk;simp only [Option.map_none,Option.isSome_none,qz] at hlk;clear h hp hi hf
  exact Zbv
 | some p=>
  have HP:bN (kt l part id=cz (RW (fun x:aM=>x.id) p.1.lq) id):=by show kt _ _ _=_; unfold kt; rw [hf]
  rw [hf] at hlk;simp only [Option.map_some,Option.isSome_some,qz,dt] at hlk;obtain ⟨bi,ho⟩:=h.part p (List.mem_of_find?_eq_some hf);have c1:w.cell? ⟨p.2,13,n_⟩=o_ (.map (o_ p.1.q.bq)):=ho.opn.cell 13;have hlk2:=ho.ai.map.look underlying117 (TJ w) hi true;simp only [if_true] at hlk2;generalize cz (RW (fun x:aM=>x.id) p.1.lq) id=r at *;clear h hp hi hf ho
  exact Zbv
def Shelf.frm {α:Type} {vs:α->Array v_} {num:α->Int} {T:T_} {w w':w_} {bi b:Nat} {l:List (α × Nat)} (h:Shelf vs num T w bi b l) (hs: ∀ g,bi<=g->g < w.heap.size->w'.heap[g]? =w.heap[g]?):Shelf vs num T w' bi b l:=h.same fun g hg=>hs g (h.low g hg) (h.lt g hg)
def cJ.same {w w':w_} {bi o:Nat} {S:aZ} (h:cJ w bi o S) (hs: ∀ g,bi<=g->g < w.heap.size->w'.heap[g]? =w.heap[g]?):cJ w' bi o S:=
 ⟨(hs o h.low (J2.1 h.opn).1).trans h.opn,h.L8.frm hs,h.aj.frm hs,h.L9.frm hs,h.ag.frm hs,h.ae.frm hs,h.ai.frm hs,fun p hp=>(h.eI p hp).same fun g hg=>hs g ((h.eI p hp).lt hg).1 ((h.eI p hp).lt hg).2,fun p hp=>(h.eE p hp).same fun g hg=>hs g ((h.eE p hp).lt hg).1 ((h.eE p hp).lt hg).2,fun p hp=>(h.eR p hp).same fun g hg=>hs g ((h.eR p hp).lt hg).1 ((h.eR p hp).lt hg).2,h.nodup,h.low⟩
def aZ.all (S:aZ) (o:Nat):List Nat:=o :: (S.boxes ++ S.kids)
def cJ.xy {w:w_} {bi o:Nat} {S:aZ} (h:cJ w bi o S): ∀ g∈S.all o,bi<=g/\g < w.heap.size:=fun g hg=>by
 rcases Kt.1 hg with rfl | hg
 .exact ⟨h.low,(J2.1 h.opn).1⟩
 rcases Kg.1 hg with hg | hg
 .unfold aZ.boxes at hg
  simp only [Kg] at hg;rcases hg with hg | hg | hg | hg | hg | hg
  .exact ⟨h.L8.low g hg,h.L8.lt g hg⟩
  .exact ⟨h.aj.low g hg,h.aj.lt g hg⟩
  .exact ⟨h.L9.low g hg,h.L9.lt g hg⟩
  .exact ⟨h.ag.low g hg,h.ag.lt g hg⟩
  .exact ⟨h.ae.low g hg,h.ae.lt g hg⟩
  .exact ⟨h.ai.low g hg,h.ai.lt g hg⟩
 .simp only [aZ.kids,Kg,kids,Lq] at hg
  rcases hg with ⟨q,hq,hk⟩ | ⟨q,hq,hk⟩ | ⟨q,hq,hk⟩
  .exact (h.eI q hq).lt hk
  .exact (h.eE q hq).lt hk
  .exact (h.eR q hq).lt hk
def abb {S:aZ} {o g:Nat} (hg:g∈S.lq.map (·.2)):g∈S.all o:=by
 unfold aZ.all aZ.boxes;simp only [Kt,Kg];exact .inr (.inl (.inr (.inr (.inr (.inr (.inr (.inr hg)))))))
structure B2 (w0 w:w_) (K b:Nat) (l:List (aZ × Nat)) (W:w_):Prop where
 low:B_ w0.heap.size w0 W
 TN:W.heap[K]? =w.heap[K]?
 map:cF W b (l.map fun p=>(p.1.q.id,p.2))
 part: ∀ p∈l,∃ bi,b < bi/\K < bi/\cJ W bi p.2 p.1
 nodup:(l.flatMap fun p=>p.1.lq.map (·.2)).Nodup
 apart:l.Pairwise fun p q=> ∀ g∈p.1.all p.2,∀ g'∈q.1.all q.2,g < g'
def B2.below {w0 w W W2:w_} {K b:Nat} {l:List (aZ × Nat)} (h:B2 w0 w K b l W) (hK:K < W.heap.size) (hb:B_ W.heap.size W W2):B2 w0 w K b l W2:=
 ⟨h.low.trans (hb.mono h.low.size),(hb.block K hK).trans h.TN,h.map.below hb,fun p hp=>(h.part p hp).imp fun _ hp=>⟨hp.1,hp.2.1,hp.2.2.same fun g _ hg=>hb.block g hg⟩,h.nodup,h.apart⟩
def kf {w w':w_} {b g:Nat} (h:w.mapTurned w' b) (hg:g≠b):w'.heap[g]? =w.heap[g]? :=by
 obtain ⟨es,c,es',c',-,rfl⟩:=h;simp [ChangeMaps.setBlock,Ne.symm hg]
def T5 {w w':w_} {b:Nat} (h:w.mapTurned w' b):w'.heap.size=w.heap.size:=by
 obtain ⟨es,c,es',c',-,rfl⟩:=h;simp [ChangeMaps.setBlock]
def TG {w0 w w':w_} {b:Nat} (h:w.mapTurned w' b) (hb:w0.heap.size<=b) (hl:B_ w0.heap.size w0 w):B_ w0.heap.size w0 w':=by
 have h2:=fun g (hg:g≠b)=>kf (g:=g) h hg
 obtain ⟨es,c,es',c',-,rfl⟩:=h;exact ⟨hl.os,hl.tape,hl.output,by simpa [ChangeMaps.setBlock] using hl.size,fun g hg=>(h2 g zw).trans (hl.block g hg)⟩
def B2.more {w0 w W1 W2:w_} {K b bi o:Nat} {l:List (aZ × Nat)} {S:aZ} (h:B2 w0 w K b l W1) (hb0:w0.heap.size<=b) (hKb:K≠b) (ho:cJ W1 bi o S) (hbase:b < bi) (hKbase:K < bi) (aa5: ∀ p∈l,∀ g∈p.1.all p.2,g < bi) (hlast: ∀ p∈l,p.1.q.id < S.q.id)
  (hm:cF W2 b (oK (S.q.id,o) (l.map fun p=>(p.1.q.id,p.2)))) (ht:W1.mapTurned W2 b):B2 w0 w K b (l ++ [(S,o)]) W2:=by
 refine ⟨TG ht hb0 h.low,(kf ht hKb).trans h.TN,?_,fun p hp=> ?_,?_,?_⟩
 .rw [Uz (fun q hq=>by obtain ⟨p,hp,rfl⟩:=Lr.1 hq; exact hlast p hp)] at hm
  simpa using hm
 .rcases Kg.1 hp with hp | hp
  .obtain ⟨bs,h1,h3,h2⟩:=h.part p hp
   exact ⟨bs,h1,h3,h2.same fun g hg _=>kf ht zw⟩
  .rw [KB.1 hp]
   exact ⟨bi,hbase,hKbase,ho.same fun g hg _=>kf ht zw⟩
 .rw [aej,Kf]
  refine ⟨h.nodup,by simpa using (Lp.1 ho.ai.nodup).2,fun g hg g' hg' e=> ?_⟩;obtain ⟨p,hp,hg⟩:=Rt.1 hg;have h1:=aa5 p hp g (abb hg);have h2:=ho.ai.low g' (LB _ (by simpa using hg'));omega
 .refine aeB.2 ⟨h.apart,List.pairwise_singleton _ _,fun p hp q hq g hg g' hg'=> ?_⟩
  rw [KB.1 hq] at hg';have h1:=aa5 p hp g hg;have h2:=(ho.xy g' hg').1;omega
def kwf_in {z:Int} (h:cv z 1 1000=true):(Lit.int j_ z).wf=true:=by
 have h2:=bz.1 h;have e1:IntKind.min j_<=0:=by decide
 have e2:100000<=IntKind.max j_:=by decide
 exact Zbo
def D2 {α:Type} {num:α->Int} {ok:α->Bool} : ∀ {l:List α} {last:Int},aw num ok last l=true->(∀ x∈l,last < num x)/\l.Pairwise (fun x y=>num x < num y)
 | [],_,_=>⟨(fun x hx=>by cases hx),List.Pairwise.nil⟩
 | x :: r,last,h=>by
  simp only [aw,J7,decide_eq_true_eq] at h;obtain ⟨h1,h2⟩:=D2 h.2;exact Zaz
def Vk (w0 w:w_) (K b:Nat) (ps:List af) (e:Ending) (W:w_):Prop:=B_ w0.heap.size w0 W/\((aw (·.id) bK 0 (ps.map (·.pure))=false/\e=r_ (b_ false))\/(aw (·.id) bK 0 (ps.map (·.pure))=true/\e=r_ (b_ true)/\ ∃ l,l.map (·.1.pure)=ps.map (·.pure)/\B2 w0 w K b l W))
def Tr (w0 w:w_) (K b:Nat) (a:Option d_) (ps:List af) (cap:Nat) (hw:B_ w0.heap.size w0 w) (hb0:w0.heap.size<=b) (hK:K < w.heap.size) (hKb:K≠b) (hc:w.cell? ⟨K,63,n_⟩=o_ (.map (o_ b))) (hm:cF w b []) (hl:ps.length<=1048576) (hk:kp.bU w0 a ps) (hg: ∀ p∈ps,p.Good w0):
  k_ J3 35 #[p_ (o_ ⟨K,0,n_⟩),s_ a ps.length cap] w fun e w'=>Vk w0 w K b ps e w':=by
 have S:bN (B2 w0 w K b [] w):=⟨hw,rfl,hm,zy,zy,List.Pairwise.nil⟩
 have HC:=aA (And.intro hc (And.intro hK (And.intro hKb hb0)));have HG:=aA (And.intro hk hg);clear hw hm hc hk hg hK hKb hb0
 go_enter func35,ntmps35
 go_wp2_with fail
 go_loopw [5,12] (fun q i wr=> ∃ (n:Nat) (l:List (aZ × Nat)),n<=ps.length/\i=i_ j_ n/\q=i_ j_ (bW (fun x:aE=>x.id) 0 ((ps.map (·.pure)).take n))/\bN (B2 w0 w K b l wr/\w.heap.size<=wr.heap.size/\l.map (·.1.pure)=(ps.map (·.pure)).take n/\aw (·.id) bK 0 ((ps.map (·.pure)).take n)=true)) (fun _ i _=>ps.length - (Go.RowKit.intOf i).toNat)
 case atStart=>exact ⟨0,[],Ky _,rfl,rfl,S.I,Ki _,rfl,rfl⟩
 case round=>
  clear S;obtain ⟨n,l,hn,rfl,rfl,S⟩:=hrel;by_cases hlt:n < ps.length
  .have i0:(0:Int)<=(n:Int):=zw
   have i1:(n:Int) < (ps.length:Int):=zw
   obtain ⟨p,hp⟩: ∃ p,ps[n]? =o_ p:=⟨_,Kz hlt⟩
   have HP:bN ((ps.map (·.pure))[n]? =o_ p.pure):=by show (ps.map (·.pure))[n]? =_; rw [Kk,hp]; rfl
   have hmem:=KA hp;obtain ⟨gs,rfl,⟨c0,c1,c2,c3,c4,c5,c6,c7⟩,-⟩:=ic (HG.I.1.below S.I.1.low) hp;go_upto_region 5 with fail;have hz:B_ wr.heap.size wr (wr.alloc (c_ p.row 46)):=(Kp _ _).alloc (Ki _) _;have HSZ:=aA S.I.2.1;have HL:=aA S.I.2.2;replace S:=aA (S.I.1.below (by have:=HC.I.2.1; have:=HSZ.I; omega) hz);have Uc:bN ((wr.alloc (c_ p.row 46)).heap[wr.heap.size]? =o_ (c_ p.row 46)/\w.heap.size<=(wr.alloc (c_ p.row 46)).heap.size):=⟨Kj _ _,by have:=hz.size; have:=HSZ.I; omega⟩
   have Mb:=iO p (wr.alloc (c_ p.row 46)) ((HG.I.2 p hmem).below S.I.low);unfold af.cells at Mb;clear c0 c1 c2 c3 c4 c5 c6 c7 hz HSZ hmem hp;generalize wr.alloc (c_ p.row 46)=W at *;have c0:W.cell? ⟨wr.heap.size,0,n_⟩=o_ (i_ j_ p.id):=by simp [World.cell?,Uc.I.1]
   have c1:W.cell? ⟨wr.heap.size,1,n_⟩=o_ (i_ j_ p.next):=by simp [World.cell?,Uc.I.1]
   have c2:W.cell? ⟨wr.heap.size,2,n_⟩=o_ (s_ p.aN p.L8.length p.aW):=by simp [World.cell?,Uc.I.1]
   have c3:W.cell? ⟨wr.heap.size,3,n_⟩=o_ (s_ p.bc p.aj.length p.bF):=by simp [World.cell?,Uc.I.1]
   have c4:W.cell? ⟨wr.heap.size,4,n_⟩=o_ (s_ p.ay p.L9.length p.aO):=by simp [World.cell?,Uc.I.1]
   have c5:W.cell? ⟨wr.heap.size,5,n_⟩=o_ (s_ p.ax p.ag.length p.aP):=by simp [World.cell?,Uc.I.1]
   have c6:W.cell? ⟨wr.heap.size,6,n_⟩=o_ (s_ p.am p.ae.length p.aG):=by simp [World.cell?,Uc.I.1]
   have c7:W.cell? ⟨wr.heap.size,7,n_⟩=o_ (s_ p.aK p.ai.length p.aV):=by simp [World.cell?,Uc.I.1]
   go_wp2_with fail;clear c0 c1 c2 c3 c4 c5 c6 c7;refine Mb.mono ?_;clear Mb;rintro e W1 ⟨hb1,⟨hr,rfl⟩ | ⟨hr,o,T,rfl,ho,hp⟩⟩
   .have HN:bN (aw (·.id) bK 0 (ps.map (·.pure))=false):=bS HP.I fun hh=>hr ((ch _).1 hh.2.2)
    have HE:=aA (S.I.low.trans (hb1.mono S.I.low.size));clear hb1 hr;go_wp2;go_ret;exact ⟨HE.I,.inl ⟨HN.I,rfl⟩⟩
   have HF:bN (∀ q∈l,∀ g∈q.1.all q.2,g < W.heap.size):=fun q hq g hg=>by
    obtain ⟨bs,-,-,h2⟩:=S.I.part q hq;exact (h2.xy g hg).2
   have hmb:b < W.heap.size:=S.I.map.lt;replace S:=aA (S.I.below (by have:=HC.I.2.1; have:=Uc.I.2; omega) hb1);have hid:T.q.id=p.id:=congrArg aE.id hp;have d0:W1.cell? ⟨o,0,n_⟩=o_ (i_ j_ p.id):=by have h:=ho.opn.cell 0; rw [h]; show o_ (Value.int IntKind.i64 T.q.id)=_; rw [hid]
   have HO:bN (cJ W1 W.heap.size o T/\T.pure=p.pure/\b < W.heap.size/\w.heap.size<=W1.heap.size/\aQ p.pure):=⟨ho,hp,hmb,by have:=hb1.size; have:=Uc.I.2; omega,hr⟩
   have HKW:bN (K < W.heap.size):=by show K < _; have:=HC.I.2.1; have:=Uc.I.2; omega
   have HID:=aA hid;clear ho hp hmb hb1 hid hr Uc;by_cases hle:p.id<=bW (fun x:aE=>x.id) 0 ((ps.map (·.pure)).take n)
   .have HN:bN (aw (·.id) bK 0 (ps.map (·.pure))=false):=bS HP.I fun hh=>by have h2:=hh.2.1; have h3:bW (fun x:aE=>x.id) 0 ((ps.map (·.pure)).take n) < p.id:=h2; omega
    go_wp2;go_ret;exact ⟨S.I.low,.inl ⟨HN.I,rfl⟩⟩
   have HI:bN (cv p.pure.id 1 1000=true):=by have h1:=HO.I.2.2.2.2.id; rw [bz] at h1; exact eB zw zw
   have HWF:bN ((Lit.int j_ p.id).wf=true):=kwf_in HI.I;have HT:bN (aw (·.id) bK 0 ((ps.map (·.pure)).take (n+1))=true):=ed HL.I.2 HP.I HI.I (by show _ < p.id; omega) ((ch _).2 HO.I.2.2.2.2);have j6:bN (∀ q∈l,q.1.q.id < p.id):=fun q hq=>by
    have h1:=(D2 HT.I).2;rw [cj HP.I,aeB] at h1;exact h1.2.2 q.1.pure (by rw [<- HL.I.1]; exact Lr.2 ⟨q,hq,rfl⟩) p.pure zy
   obtain ⟨W2,hrun,hm2,ht2⟩:=(S.I.map.below (Kp _ _).drew).put underlying66 HWF.I o (by
    rw [Tf]
    have:l.find? (fun q=>q.1.q.id == p.id)=n_:=List.find?_eq_none.2 fun q hq=>by have:=j6.I q hq; simp; omega
    rw [this];rfl) (by have h5:=congrArg List.length HL.I.1; simp at h5 ⊢; omega)
   have HW:bN (cF W2 b (oK (p.id,o) (l.map fun p=>(p.1.q.id,p.2)))/\W1.drew.mapTurned W2 b):=⟨hm2,ht2⟩
   have hob:o≠b:=by have h1:=HO.I.1.low; have h2:=HO.I.2.2.1; omega
   have d1:W2.cell? ⟨o,0,n_⟩=o_ (i_ j_ p.id):=(J1 (w:=W1.drew) (a:=⟨o,0,n_⟩) (kf ht2 hob)).trans d0;have HD:=aA d1;clear hm2 ht2 hob d1;have VH:=aA d0;have hleB:decide (p.id<=bW (fun x:aE=>x.id) 0 ((ps.map (·.pure)).take n))=false:=decide_eq_false hle;clear hle;go_upto_region 8 with fail;clear d0 hleB;replace S:=aA (S.I.below (by have:=HC.I.2.1; have:=HO.I.2.2.2.1; omega) (Kp _ _).drew);refine Kr (S:=fun W=>W.heap[K]? =w.heap[K]? /\W.cell? ⟨o,0,n_⟩=o_ (i_ j_ p.id)) ZbY ⟨S.I.TN,VH.I⟩ (fun _=> ?_);have mH:bN (W1.drew.heap[K]? =w.heap[K]? /\W1.drew.cell? ⟨o,0,n_⟩=o_ (i_ j_ p.id)):=⟨S.I.TN,VH.I⟩
   have HCK:bN (∀ W:w_,W.heap[K]? =w.heap[K]? ->W.cell? ⟨K,63,n_⟩=o_ (.map (o_ b))):=fun W h=>(J1 (w:=w) (a:=⟨K,63,n_⟩) h).trans HC.I.1
   refine tt 0 mH.I ?_;refine tt 1 mH.I ?_;refine tt 2 mH.I ?_;refine tt 3 mH.I ?_ (hy:=fun w0 hS0=>by have e1:=HCK.I w0 hS0.1; go_simp; try with_reducible rfl);refine tt 4 mH.I ?_;refine tt 5 mH.I ?_;refine tt 6 mH.I ?_;refine tt 7 mH.I ?_ (hy:=fun w0 hS0=>by have e1:=hS0.2; go_simp; try with_reducible rfl);refine tt 8 mH.I ?_;refine L7 9 (fun Q hQ=> ?_);have VG:=hrun;unfold dt at VG;clear hrun;go_wp2_with fail;have zz:bN (W2.heap[K]? =w.heap[K]? /\W2.cell? ⟨o,0,n_⟩=o_ (i_ j_ p.id)):=⟨(kf HW.I.2 HC.I.2.2.1).trans S.I.TN,HD.I⟩
   refine hQ.out _ _ zz.I (fun _=> ?_);clear hQ Q VG;refine K3 ZbY ?_ _;have d0:=HD.I;go_wp2;go_roundw
   case rel=>
    refine ⟨n+1,l ++ [(T,o)],zw,by go_num,by rw [eG HP.I]; rfl,?_,?_,?_,HT.I⟩
    .exact S.I.more HC.I.2.2.2 HC.I.2.2.1 (HO.I.1.same fun g _ _=>rfl) HO.I.2.2.1 HKW.I HF.I (fun q hq=>by rw [HID.I]; exact j6.I q hq) (by rw [HID.I]; exact HW.I.1) HW.I.2
    .rw [T5 HW.I.2]; exact HO.I.2.2.2.1
    .rw [cj HP.I,Kl,HL.I.1]; simp [HO.I.2.1]
   case measure=>simp [Go.RowKit.intOf]; omega
  .have i1: ¬ (n:Int) < (ps.length:Int):=zw
   go_wp2;go_ret;have h:=S.I.2.2;rw [KF ZbZ] at h;exact ⟨S.I.1.low,.inr ⟨h.2,rfl,l,h.1,S.I.1⟩⟩
structure gi where
 c:eQ
 s:Nat
 t:Nat
abbrev fz (l:gi):Array v_:= #[i_ j_ l.c.src,i_ j_ l.c.ga,i_ j_ l.c.dst,i_ j_ l.c.hI,p_ (o_ ⟨l.s,0,n_⟩),p_ (o_ ⟨l.t,0,n_⟩)]
def VI {a b:Nat} {w:w_} {x y:aM} (hx:w.heap[a]? =o_ (c_ (cW x) 51)) (hy:w.heap[b]? =o_ (c_ (cW y) 51)):Sem.run J3 (binOp BinOp.eql 89 (p_ (o_ ⟨a,0,n_⟩)) (p_ (o_ ⟨b,0,n_⟩))) w= .ok (b_ (decide (a=b))) w:=by
 simp only [binOp,go_sem];unfold Op.equal Op.maxDepth;unfold Op.equalIn;simp [go_sem];by_cases h:a=b
 .subst h
  rw [run_sameAddr_same];simp
 .rw [run_sameAddr_other w (a:=⟨a,0,n_⟩) (b:=⟨b,0,n_⟩) zy hx hy]
  simp [h]
def TK (l m:gi) (x y u v:aM) (w:w_) (hx:w.heap[l.s]? =o_ (c_ (cW x) 51)) (hy:w.heap[m.s]? =o_ (c_ (cW y) 51)) (hu:w.heap[l.t]? =o_ (c_ (cW u) 51)) (hv:w.heap[m.t]? =o_ (c_ (cW v) 51)):
  k_ J3 110 #[a_ (fz l),a_ (fz m)] w fun e w'=>e=r_ (b_ (decide (l.t=m.t) || decide (l.s=m.s) && x.Mf))/\B_ w.heap.size w w':=by
 have hb:B_ w.heap.size w ((w.alloc (c_ (fz l) 91)).alloc (c_ (fz m) 91)):=((Kp _ w).alloc (Ki _) _).alloc zy _;have up: ∀ {g:Nat} {z:aM},w.heap[g]? =o_ (c_ (cW z) 51)->((w.alloc (c_ (fz l) 91)).alloc (c_ (fz m) 91)).heap[g]? =o_ (c_ (cW z) 51):=fun h=>(hb.block _ (J2.1 h).1).trans h
 have q2:=(gg (up hx)).2;have e1:=VI (up hu) (up hv);have e2:=VI (up hx) (up hy);have HB:=aA hb;clear hx hy hu hv up hb;cases h1:decide (l.t=m.t)
 .rw [h1] at e1
  cases h2:decide (l.s=m.s)
  .rw [h2] at e2
   go_enter func110,ntmps110
   go_wp2;go_ret;exact ⟨rfl,HB.I⟩
  .rw [h2] at e2
   go_enter func110,ntmps110
   go_wp2;go_ret;exact ⟨al zy,HB.I⟩
 .rw [h1] at e1
  go_enter func110,ntmps110
  go_wp2;go_ret;exact ⟨al zy,HB.I⟩
def tA (l:gi):List v_:=(fz l).toList
def qo:Kind gi:=⟨6,tA,fun _=> [],by decide,fun _=>rfl⟩
def M2 {α:Type} (p:α->Bool):List α->Int
 | [] => -1
 | x :: r=>if p x then 0 else if M2 p r < 0 then -1 else M2 p r+1
def Uv {α:Type} (p:α->Bool): ∀ l:List α,decide (0<=M2 p l)=l.any p
 | [] =>by simp [M2]
 | x :: r=>by
  have h:=Uv p r;simp only [M2,List.any_cons];by_cases hp:p x=true
  .simp [hp]
  .rw [<- h]
   by_cases h0:M2 p r < 0
   .simp [h0,hp]
   .simp [h0,hp]; omega
def Vj {α:Type} {p:α->Bool} : ∀ {l:List α},(∀ x∈l,p x=false)->M2 p l= -1
 | [],_=>rfl
 | x :: r,h=>by simp [M2,h x zy,Vj (l:=r) (fun y hy=>h y ZcG)]
def Us {α:Type} {p:α->Bool} : ∀ {l:List α} {k:Nat} {x:α},l[k]? =o_ x->p x=true->(∀ y∈l.take k,p y=false)->M2 p l=k
 | [],k,x,h,_,_=>by simp at h
 | y :: r,0,x,h,hp,_=>by simp at h; subst h; simp [M2,hp]
 | y :: r,k+1,x,h,hp,hn=>by
  have h1:=Us (l:=r) (k:=k) (x:=x) (by simpa using h) hp (fun z hz=>hn z ZcX);have h2:=hn y zy;simp [M2,h2,h1];omega
def rl (w:w_) (l:gi):Prop:= ∃ x y:aM,w.heap[l.s]? =o_ (c_ (cW x) 51)/\w.heap[l.t]? =o_ (c_ (cW y) 51)
def rl.below {w w':w_} {l:gi} (h:rl w l) (hb:B_ w.heap.size w w'):rl w' l:=by
 obtain ⟨x,y,h1,h2⟩:=h;exact ⟨x,y,(hb.block _ (J2.1 h1).1).trans h1,(hb.block _ (J2.1 h2).1).trans h2⟩
def ts (m:gi) (q:Bool) (o:gi):Bool:=decide (m.t=o.t) || decide (m.s=o.s) && q
def Vq {w:w_} {a:Option d_} {l:List gi} (h:Row w a (qo.flat l)) {i:Nat} {x:gi} (hx:l[i]? =o_ x): ∃ g,a=o_ ⟨g,0,n_⟩/\w.cell? ⟨g,i * 6,n_⟩=o_ (i_ j_ x.c.src)/\w.cell? ⟨g,i * 6+1,n_⟩=o_ (i_ j_ x.c.ga)/\w.cell? ⟨g,i * 6+2,n_⟩=o_ (i_ j_ x.c.dst)/\w.cell? ⟨g,i * 6+3,n_⟩=o_ (i_ j_ x.c.hI)/\w.cell? ⟨g,i * 6+4,n_⟩=o_ (p_ (o_ ⟨x.s,0,n_⟩))/\w.cell? ⟨g,i * 6+5,n_⟩=o_ (p_ (o_ ⟨x.t,0,n_⟩)):=by
 obtain ⟨g,e,hc⟩:=Kind.bU.at (K:=qo) ⟨h,fun x _ r hr=>by simp [qo] at hr⟩ hx;exact ⟨g,e,hc 0 _ rfl,hc 1 _ rfl,hc 2 _ rfl,hc 3 _ rfl,hc 4 _ rfl,hc 5 _ rfl⟩
def T2 (a:Option d_) (ls:List gi) (cap:Nat) (m:gi) (z:aM) (w:w_) (hl:ls.length<=1048576) (hr:Row w a (qo.flat ls)) (hz:w.heap[m.s]? =o_ (c_ (cW z) 51)) (hm:rl w m) (hb: ∀ l∈ls,rl w l):
  k_ J3 149 #[s_ a ls.length cap,.func (.func 110) #[a_ (fz m)] #[]] w fun e w'=>e=r_ (i_ j_ (M2 (ts m z.Mf) ls))/\B_ w.heap.size w w':=by
 have H:bN (Row w a (qo.flat ls)/\w.heap[m.s]? =o_ (c_ (cW z) 51)/\rl w m/\ ∀ l∈ls,rl w l):=⟨hr,hz,hm,hb⟩
 clear hr hz hm hb
 go_enter func149,ntmps149
 go_wp2_with fail
 go_loopw [8] (fun i wr=> ∃ k:Nat,k<=ls.length/\i=i_ j_ k/\bN ((∀ y∈ls.take k,ts m z.Mf y=false)/\B_ w.heap.size w wr)) (fun i _=>ls.length - (Go.RowKit.intOf i).toNat)
 case atStart=>exact ⟨0,Ky _,rfl,(fun y hy=>by simp at hy),Kp _ _⟩
 case round=>
  obtain ⟨k,hk,rfl,S⟩:=hrel;by_cases hlt:k < ls.length
  .have i0:(0:Int)<=(k:Int):=zw
   have i1:(k:Int) < (ls.length:Int):=zw
   obtain ⟨p,hp⟩: ∃ p,ls[k]? =o_ p:=⟨_,Kz hlt⟩
   obtain ⟨g,rfl,c0,c1,c2,c3,c4,c5⟩:=Vq (H.I.1.below S.I.2) hp;obtain ⟨x,y,hx,hy⟩:=(H.I.2.2.1.below S.I.2)
   obtain ⟨u,v,hu,hv⟩:=((H.I.2.2.2 p (KA hp)).below S.I.2)
   have hzz:=(S.I.2.block _ (J2.1 H.I.2.1).1).trans H.I.2.1;have Mb:=TK m p z u y v wr hzz hu hy hv;have HP:=aA hp;clear hp hx hy hu hv hzz;go_wp2_with fail;clear c0 c1 c2 c3 c4 c5;refine Mb.mono ?_;clear Mb;rintro e W1 ⟨rfl,hb1⟩;replace S:=aA (And.intro S.I.1 (S.I.2.trans (hb1.mono S.I.2.size)));clear hb1;have HM:bN (ts m z.Mf p=(decide (m.t=p.t) || decide (m.s=p.s) && z.Mf)):=rfl;generalize (decide (m.t=p.t) || decide (m.s=p.s) && z.Mf)=r at *;cases r
   .go_wp2
    go_roundw
    case rel=>
     refine ⟨k+1,zw,by go_num,fun y hy=> ?_,S.I.2⟩;rw [cj HP.I] at hy;rcases Kg.1 hy with hy | hy
     .exact S.I.1 y hy
     .rw [KB.1 hy]; exact HM.I
    case measure=>simp [Go.RowKit.intOf]; omega
   .go_wp2
    go_ret;exact ⟨by rw [Us HP.I HM.I S.I.1]; rfl,S.I.2⟩
  .have i1: ¬ (k:Int) < (ls.length:Int):=zw
   go_wp2;go_ret;have h:=S.I.1;rw [KF zw] at h;exact ⟨by rw [Vj h]; rfl,S.I.2⟩
def UQ (a:Option d_) (ls:List gi) (cap:Nat) (m:gi) (z:aM) (w:w_) (hl:ls.length<=1048576) (hr:Row w a (qo.flat ls)) (hz:w.heap[m.s]? =o_ (c_ (cW z) 51)) (hm:rl w m) (hb: ∀ l∈ls,rl w l):
  k_ J3 109 #[s_ a ls.length cap,.func (.func 110) #[a_ (fz m)] #[]] w fun e w'=>e=r_ (b_ (ls.any (ts m z.Mf)))/\B_ w.heap.size w w':=by
 have Mb:=T2 a ls cap m z w hl hr hz hm hb;have HA:=aA (Uv (ts m z.Mf) ls);clear hr hz hm hb hl;generalize M2 (ts m z.Mf) ls=i at *;generalize ls.any (ts m z.Mf)=r at *
 go_enter func109,ntmps109
 go_wp2_with fail;refine Mb.mono ?_;clear Mb;rintro e W1 ⟨rfl,hb1⟩;go_wp2;go_ret;exact ⟨al HA.I,hb1⟩
structure eA.ep (w:w_) (k:eA):Prop where
 fn:jq.ep w k.vb k.fn
 parts:kp.ep w k.qn k.parts
 eC:hM.ep w k.qi k.eC
def eA.ep.below {w w':w_} {k:eA} (h:k.ep w) (hb:B_ w.heap.size w w'):k.ep w':=⟨h.fn.below hb,h.parts.below hb,h.eC.below hb⟩
structure VM (w w':w_) (l I:List af):Prop where
 row:w'.ownsRow w.heap.size 46 8 (s_ (o_ ⟨w.heap.size,0,n_⟩) l.length l.length) l.length (kp.flat I)
 alike:I.map (·.pure)=l.map (·.pure)
 mine: ∀ p∈I,ap w' (w.heap.size+1) p
 nodup:(I.flatMap af.Mc).Nodup
 cd:B_ w.heap.size w w'
structure qg (w wr:w_) (l I:List af) (k:Nat):Prop where
 fill:gb kp 46 w wr l.length I
 len:I.length=k
 alike:I.map (·.pure)=(l.take k).map (·.pure)
 mine: ∀ p∈I,ap wr (w.heap.size+1) p
 nodup:(I.flatMap af.Mc).Nodup
section
variable {w wr w':w_} {l I:List af} {k:Nat} {x q:af}
def qg.start (h:gb kp 46 w wr l.length []):qg w wr l [] 0:=⟨h,rfl,rfl,(fun x hx=>by cases hx),List.nodup_nil⟩
def qg.below (h:qg w wr l I k) (hb:B_ wr.heap.size wr w'):qg w w' l I k:=⟨h.fill.below hb,h.len,h.alike,fun x hx=>(h.mine x hx).below hb,h.nodup⟩
def qg.more (h:qg w w' l I k) (hlt:k < l.length) (hx:l[k]? =o_ x) (ho:ap w' wr.heap.size q) (hp:q.pure=x.pure) (hr:qg w wr l I k):qg w (bn w' w.heap.size (k * 8) (kp.vals q)) l (I ++ [q]) (k+1):=by
 have hf:=h.fill.more (by rw [h.len]; exact hlt) q;rw [h.len] at hf;have hlw:=hr.fill.lt;refine ⟨hf,by rw [Lf,h.len]; rfl,?_,fun y hy=> ?_,?_⟩
 .rw [cj hx,Kl,Kl,h.alike]
  simp [hp]
 .have hmy:ap w' (w.heap.size+1) y:=by
   rcases Kg.1 hy with hy | hy
   .exact h.mine y hy
   .rw [KB.1 hy]
    exact ho.lower zw
  exact hmy.same fun g hg=>de _ (by have:=(hmy.lt g hg).1; omega)
 .rw [aej,Kf]
  refine ⟨h.nodup,by simpa using ho.nodup,fun g hg g' hg' e=> ?_⟩;obtain ⟨y,hy,hgy⟩:=Rt.1 hg;have h1:=((hr.mine y hy).lt g hgy).2;have h2:=(ho.lt g' (by simpa using hg')).1;omega
def qg.done (h:qg w wr l I l.length) (hm:l.length<=maxLen):VM w wr l I:=
 ⟨h.fill.done h.len hm,by have:=h.alike; rwa [LQ] at this,h.mine,h.nodup,h.fill.cd⟩
end
abbrev T9:Array v_:= #[i_ j_ 0,i_ j_ 0,s_ n_ 0 0,s_ n_ 0 0,s_ n_ 0 0]
section
variable {w W W2:w_} {k:eA} {cur:Array v_} {F G:w_->Prop}
end
structure gp (w:w_) (bi:Nat) (k:eA):Prop where
 fn:w.ownsRow bi 62 3 (s_ k.vb k.fn.length k.Te) k.fn.length (jq.flat k.fn)
 parts:w.ownsRow bi 46 8 (s_ k.qn k.parts.length k.sa) k.parts.length (kp.flat k.parts)
 eC:w.ownsRow bi 37 4 (s_ k.qi k.eC.length k.tC) k.eC.length (hM.flat k.eC)
 mine: ∀ p∈k.parts,ap w bi p
 nodup:(blk k.vb ++ (blk k.qn ++ (blk k.qi ++ k.parts.flatMap af.Mc))).Nodup
end
section
open Go.RowKit
structure Zg (k:eA) (We w:w_) (b0 d0 f b1 d1 b3 d3 e:Bool) (g0 g1 o:Nat) (a0 a1:Option d_) (c0 c1:Nat):Prop where
 cd:B_ We.heap.size We w
 src:Tk w We.heap.size k
 ret:w.heap[We.heap.size+1]? =o_ (c_ T9 30)
 s0:su w (We.heap.size+2) 62 3 k.fn.length (jq.flat k.fn) b0 d0 g0 a0 c0
 s1:su w (We.heap.size+2) 37 4 k.eC.length (hM.flat k.eC) b1 d1 g1 a1 c1
 I:b3=true->w.heap[o]? =o_ (c_ (bif d3 then #[i_ j_ k.bj,i_ j_ k.major,s_ a0 k.fn.length c0,s_ n_ 0 0,s_ a1 k.eC.length c1] else T9) 30)
 cl:(e=true->f=true/\d1=true)/\(d3=true->e=true/\b3=true)/\(f=true->d0=true)
 size:We.heap.size+2<=w.heap.size
 pR:mJ (We.heap.size+2) w.heap.size (four (bM b0 d0 g0 a0) (bM b1 d1 g1 a1) [] (bif b3 then [o] else []))
 som:d0=true-> ∃ q,a0=o_ ⟨q,0,n_⟩
section
variable {k:eA} {We w:w_} {b0 d0 f b1 d1 b3 d3 e:Bool} {g0 g1 o:Nat} {a0 a1:Option d_} {c0 c1:Nat}
def Zg.aaZ (h:Zg k We w false d0 f b1 d1 b3 d3 e g0 g1 o a0 a1 c0 c1):Zg k We (w.alloc (c_ #[] 62)) true d0 f b1 d1 b3 d3 e w.heap.size g1 o a0 a1 c0 c1:=by
 have hb:B_ w.heap.size w (w.alloc (c_ #[] 62)):=(Kp _ _).alloc (Ki _) _;have hlt: ∀ i,∀ q∈four (bM false d0 g0 a0) (bM b1 d1 g1 a1) [] (bif b3 then [o] else []) i,q < w.heap.size:=fun i q hq=>(h.pR.xy i q hq).2
 exact ⟨h.cd.trans (hb.mono h.cd.size),(hb.block _ Zb8).trans h.src,(hb.block _ Zb8).trans h.ret,⟨fun _ hd=>⟨Kj _ _,h.size⟩,fun hd=>aL (h.s0.done hd) fun q hq=>hb.block q (hlt 0 q Zck)⟩,h.s1.same fun q hq=>hb.block q (hlt 1 q hq),fun e=>(hb.block _ (hlt 3 o Zcj)).trans (h.I e),h.cl,by have:=h.size; simp; omega,h.pR.up 0 (fun j hj=>by rcases j with _ | _ | _ | _ | _ <;> first | rfl | exact absurd rfl hj) (fun q hq=>by cases d0 with | true=>exact .inl Zce | false=>exact .inr Zce) zy h.size,h.som⟩
def Zg.abg (h:Zg k We w b0 d0 f false d1 b3 d3 e g0 g1 o a0 a1 c0 c1):Zg k We (w.alloc (c_ #[] 37)) b0 d0 f true d1 b3 d3 e g0 w.heap.size o a0 a1 c0 c1:=by
 have hb:B_ w.heap.size w (w.alloc (c_ #[] 37)):=(Kp _ _).alloc (Ki _) _;have hlt: ∀ i,∀ q∈four (bM b0 d0 g0 a0) (bM false d1 g1 a1) [] (bif b3 then [o] else []) i,q < w.heap.size:=fun i q hq=>(h.pR.xy i q hq).2
 exact ⟨h.cd.trans (hb.mono h.cd.size),(hb.block _ Zb8).trans h.src,(hb.block _ Zb8).trans h.ret,h.s0.same fun q hq=>hb.block q (hlt 0 q hq),⟨fun _ hd=>⟨Kj _ _,h.size⟩,fun hd=>aL (h.s1.done hd) fun q hq=>hb.block q (hlt 1 q Zck)⟩,fun e=>(hb.block _ (hlt 3 o Zcj)).trans (h.I e),h.cl,by have:=h.size; simp; omega,h.pR.up 1 (fun j hj=>by rcases j with _ | _ | _ | _ | _ <;> first | rfl | exact absurd rfl hj) (fun q hq=>by cases d1 with | true=>exact .inl Zce | false=>exact .inr Zce) zy h.size,h.som⟩
def Zg.aa1 {w2:w_} {a:Option d_} {c:Nat} (h:Zg k We w true false f b1 d1 b3 d3 e g0 g1 o a0 a1 c0 c1) (ho:w2.ownsRow (We.heap.size+2) 62 3 (s_ a k.fn.length c) k.fn.length (jq.flat k.fn)) (hg:w.grownBy w2 (o_ g0)) (hq: ∀ q∈blk a,q=g0\/q=w.heap.size) (hs: ∃ q,a=o_ ⟨q,0,n_⟩):Zg k We w2 true true f b1 d1 b3 d3 e g0 g1 o a a1 c c1:=by
 have hlt: ∀ i,∀ q∈four (bM true false g0 a0) (bM b1 d1 g1 a1) [] (bif b3 then [o] else []) i,q < w.heap.size:=fun i q hq=>(h.pR.xy i q hq).2
 have hgl:We.heap.size+2<=g0/\g0 < w.heap.size:=h.pR.xy 0 g0 ZcL;have hne: ∀ i,i≠0-> ∀ q∈four (bM true false g0 a0) (bM b1 d1 g1 a1) [] (bif b3 then [o] else []) i,w2.heap[q]? =w.heap[q]? :=fun i hi q hq=>hg.block q (hlt i q hq) fun e=>h.pR.apart i 0 hi q hq Zcq
 have hbe:B_ We.heap.size We w2:=h.cd.grown hg Zb8 (fun k hk=>by cases hk; omega);have hf:f=false:=by cases hx:f with | false=>rfl | true=>have:=h.cl.2.2 hx; simp at this
 have he:e=false:=by cases hx:e with | false=>rfl | true=>have:=(h.cl.1 hx).1; rw [hf] at this; cases this
 have hd:d3=false:=by cases hx:d3 with | false=>rfl | true=>have:=(h.cl.2.1 hx).1; rw [he] at this; cases this
 subst he hd hf;have hz:=hg.size;have hsz:=h.size;refine ⟨hbe,(hg.block _ zw (fun e=>by have:=KC e; omega)).trans h.src,(hg.block _ zw (fun e=>by have:=KC e; omega)).trans h.ret,⟨(fun _ hd=>by cases hd),fun _=>ho⟩,h.s1.same fun q hq=>hne 1 (by decide) q hq,fun e=>(hne 3 (by decide) o Zcj).trans (h.I e),⟨(fun e=>by cases e),(fun e=>by cases e),fun e=>by cases e⟩,zw,?_,fun _=>hs⟩;by_cases hnew: ∃ q∈blk a,q=w.heap.size
 .exact ZbL
 .have hall: ∀ q∈blk a,q=g0:=fun q hq'=>(hq q hq').resolve_right fun e=>hnew ⟨q,hq',e⟩
  refine mJ.mono (n:=w.heap.size) ⟨fun i i2 hij q hi hi2=> ?_,fun i q hi=> ?_⟩ hz
  .have e1: ∀ i,∀ q∈four (bM true true g0 a) (bM b1 d1 g1 a1) [] (bif b3 then [o] else []) i,q∈four (bM true false g0 a0) (bM b1 d1 g1 a1) [] (bif b3 then [o] else []) i:=fun i q hq'=>by
    by_cases ei:i=0
    .exact K_
    .exact Q2
   exact Zae
  .by_cases ei:i=0
   .exact PM
   .exact A_
def Zg.aa2 {w2:w_} {a:Option d_} {c:Nat} (h:Zg k We w b0 d0 f true false b3 d3 e g0 g1 o a0 a1 c0 c1) (ho:w2.ownsRow (We.heap.size+2) 37 4 (s_ a k.eC.length c) k.eC.length (hM.flat k.eC)) (hg:w.grownBy w2 (o_ g1)) (hq: ∀ q∈blk a,q=g1\/q=w.heap.size):Zg k We w2 b0 d0 f true true b3 d3 e g0 g1 o a0 a c0 c:=by
 have hlt: ∀ i,∀ q∈four (bM b0 d0 g0 a0) (bM true false g1 a1) [] (bif b3 then [o] else []) i,q < w.heap.size:=fun i q hq=>(h.pR.xy i q hq).2
 have hgl:We.heap.size+2<=g1/\g1 < w.heap.size:=h.pR.xy 1 g1 ZcL;have hne: ∀ i,i≠1-> ∀ q∈four (bM b0 d0 g0 a0) (bM true false g1 a1) [] (bif b3 then [o] else []) i,w2.heap[q]? =w.heap[q]? :=fun i hi q hq=>hg.block q (hlt i q hq) fun e=>h.pR.apart i 1 hi q hq Zcq
 have hbe:B_ We.heap.size We w2:=h.cd.grown hg Zb8 (fun k hk=>by cases hk; omega);have he:e=false:=by cases hx:e with | false=>rfl | true=>have:=(h.cl.1 hx).2; simp at this
 have hd:d3=false:=by cases hx:d3 with | false=>rfl | true=>have:=(h.cl.2.1 hx).1; rw [he] at this; cases this
 subst he hd;have hz:=hg.size;have hsz:=h.size;refine ⟨hbe,(hg.block _ zw (fun e=>by have:=KC e; omega)).trans h.src,(hg.block _ zw (fun e=>by have:=KC e; omega)).trans h.ret,h.s0.same fun q hq=>hne 0 (by decide) q hq,⟨(fun _ hd=>by cases hd),fun _=>ho⟩,fun e=>(hne 3 (by decide) o Zcj).trans (h.I e),⟨(fun e=>by cases e),(fun e=>by cases e),h.cl.2.2⟩,zw,?_,h.som⟩;by_cases hnew: ∃ q∈blk a,q=w.heap.size
 .exact ZbM
 .have hall: ∀ q∈blk a,q=g1:=fun q hq'=>(hq q hq').resolve_right fun e=>hnew ⟨q,hq',e⟩
  refine mJ.mono (n:=w.heap.size) ⟨fun i i2 hij q hi hi2=> ?_,fun i q hi=> ?_⟩ hz
  .have e1: ∀ i,∀ q∈four (bM b0 d0 g0 a0) (bM true true g1 a) [] (bif b3 then [o] else []) i,q∈four (bM b0 d0 g0 a0) (bM true false g1 a1) [] (bif b3 then [o] else []) i:=fun i q hq'=>by
    by_cases ei:i=1
    .exact K_
    .exact Q2
   exact Zae
  .by_cases ei:i=1
   .exact PM
   .exact A_
def Zg.aa9 (h:Zg k We w b0 d0 f b1 d1 false false e g0 g1 o a0 a1 c0 c1):Zg k We (w.alloc (c_ T9 30)) b0 d0 f b1 d1 true false e g0 g1 w.heap.size a0 a1 c0 c1:=by
 have hb:B_ w.heap.size w (w.alloc (c_ T9 30)):=(Kp _ _).alloc (Ki _) _;have hlt: ∀ i,∀ q∈four (bM b0 d0 g0 a0) (bM b1 d1 g1 a1) [] (bif false then [o] else []) i,q < w.heap.size:=fun i q hq=>(h.pR.xy i q hq).2
 exact ⟨h.cd.trans (hb.mono h.cd.size),(hb.block _ Zb8).trans h.src,(hb.block _ Zb8).trans h.ret,h.s0.same fun q hq=>hb.block q (hlt 0 q hq),h.s1.same fun q hq=>hb.block q (hlt 1 q hq),fun _=>Kj _ _,⟨h.cl.1,(fun e=>by cases e),h.cl.2.2⟩,by have:=h.size; simp; omega,h.pR.up 3 (fun j hj=>by rcases j with _ | _ | _ | _ | _ <;> first | rfl | exact absurd rfl hj) (fun q hq=> .inr (by simpa [four] using hq)) zy h.size,h.som⟩
def Zg.frame (h:Zg k We w b0 d0 false b1 d1 b3 d3 e g0 g1 o a0 a1 c0 c1) (h0:d0=true):Zg k We w b0 d0 true b1 d1 b3 d3 e g0 g1 o a0 a1 c0 c1:=⟨h.cd,h.src,h.ret,h.s0,h.s1,h.I,⟨fun he=>⟨rfl,(h.cl.1 he).2⟩,h.cl.2.1,fun _=>h0⟩,h.size,h.pR,h.som⟩
def Zg.build (h:Zg k We w b0 d0 f b1 d1 b3 d3 false g0 g1 o a0 a1 c0 c1) (h0:f=true) (h1:d1=true):Zg k We w b0 d0 f b1 d1 b3 d3 true g0 g1 o a0 a1 c0 c1:=⟨h.cd,h.src,h.ret,h.s0,h.s1,h.I,⟨fun _=>⟨h0,h1⟩,fun hd=>⟨rfl,(h.cl.2.1 hd).2⟩,h.cl.2.2⟩,h.size,h.pR,h.som⟩
def Zg.store (h:Zg k We w b0 d0 f b1 d1 true false true g0 g1 o a0 a1 c0 c1):Zg k We (w.setRow o #[i_ j_ k.bj,i_ j_ k.major,s_ a0 k.fn.length c0,s_ n_ 0 0,s_ a1 k.eC.length c1]) b0 d0 f b1 d1 true true true g0 g1 o a0 a1 c0 c1:=by
 have ho:=h.pR.xy 3 o ZcF;have hne: ∀ q,q≠o->(w.setRow o #[i_ j_ k.bj,i_ j_ k.major,s_ a0 k.fn.length c0,s_ n_ 0 0,s_ a1 k.eC.length c1]).heap[q]? =w.heap[q]? :=fun q hq=>KH _ _ _ _ hq
 have hap: ∀ i,i≠3-> ∀ q∈four (bM b0 d0 g0 a0) (bM b1 d1 g1 a1) [] (bif true then [o] else []) i,q≠o:=fun i hi q hq e=>h.pR.apart i 3 hi q hq (by subst e; simp [four])
 have hsz:=h.size;exact ⟨kz h.cd zw _,(hne _ zw).trans h.src,(hne _ zw).trans h.ret,h.s0.same fun q hq=>hne q (hap 0 (by decide) q hq),h.s1.same fun q hq=>hne q (hap 1 (by decide) q hq),fun _=>KU _ _ _ _ _ _ (h.I rfl),⟨h.cl.1,(fun _=>⟨rfl,rfl⟩),h.cl.2.2⟩,by rw [size_setRow]; exact h.size,by rw [size_setRow]; exact h.pR,h.som⟩
end
def aaL {l:List pA} : ∀ u∈jq.flat l,u.oneCell'=true:=fun u hu=>by
 obtain ⟨x,_,hx⟩:=Rt.1 hu;simp only [jq,VE,Kt,Ku,or_false] at hx;rcases hx with rfl | rfl | rfl <;> rfl
def ZS:(Tryz.prog.info? 62).map (fun i=>(i.zero,i.size,i.bytes))=o_ (o_ (a_ #[i_ j_ 0,i_ j_ 0,i_ j_ 0]),3,24):=by kernel_rfl
def aaG (w:w_) (bi g:Nat) (hg:w.heap[g]? =o_ (c_ #[] 62)) (hbg:bi<=g) (a:Option d_) (l:List pA) (cap:Nat) (h:Row w a (jq.flat l)) (hl:l.length<=1048576) (lY:bi<=w.heap.size):
  ∃ a' cap' w',(Builtin.append_ #[24,24] 24 #[s_ (o_ ⟨g,0,n_⟩) 0 0,s_ a l.length cap]).run J3 w= .ok (s_ a' l.length cap') w'/\w'.ownsRow bi 62 3 (s_ a' l.length cap') l.length (jq.flat l)/\w.grownBy w' (o_ g)/\ ∀ q∈blk a',q=g\/q=w.heap.size:=by
 obtain ⟨i,hi,e⟩:=Kw.1 ZS;simp only [Kx] at e;exact kK w bi _ _ 62 i _ 3 24 underlying24 hi e.1 e.2.1 e.2.2 rfl (by decide) g hg hbg a l.length cap _ h (jq.dM l) aaL hl (by decide) lY
def abu {l:List eQ} : ∀ u∈hM.flat l,u.oneCell'=true:=fun u hu=>by
 obtain ⟨x,_,hx⟩:=Rt.1 hu;simp only [hM,Vg,Kt,Ku,or_false] at hx;rcases hx with rfl | rfl | rfl | rfl <;> rfl
def aaN:(Tryz.prog.info? 37).map (fun i=>(i.zero,i.size,i.bytes))=o_ (o_ (a_ #[i_ j_ 0,i_ j_ 0,i_ j_ 0,i_ j_ 0]),4,32):=by kernel_rfl
def abd (w:w_) (bi g:Nat) (hg:w.heap[g]? =o_ (c_ #[] 37)) (hbg:bi<=g) (a:Option d_) (l:List eQ) (cap:Nat) (h:Row w a (hM.flat l)) (hl:l.length<=1048576) (lY:bi<=w.heap.size):
  ∃ a' cap' w',(Builtin.append_ #[28,28] 28 #[s_ (o_ ⟨g,0,n_⟩) 0 0,s_ a l.length cap]).run J3 w= .ok (s_ a' l.length cap') w'/\w'.ownsRow bi 37 4 (s_ a' l.length cap') l.length (hM.flat l)/\w.grownBy w' (o_ g)/\ ∀ q∈blk a',q=g\/q=w.heap.size:=by
 obtain ⟨i,hi,e⟩:=Kw.1 aaN;simp only [Kx] at e;exact kK w bi _ _ 37 i _ 4 32 underlying28 hi e.1 e.2.1 e.2.2 rfl (by decide) g hg hbg a l.length cap _ h (hM.dM l) abu hl (by decide) lY
def aaU (w:w_) (bi g:Nat) (hg:w.heap[g]? =o_ (c_ #[] 62)) (hbg:bi<=g) (a:Option d_) (l:List pA) (cap:Nat) (h:Row w a (jq.flat l)) (hl:l.length<=1048576) (lY:bi<=w.heap.size):
  ∃ a' cap' w',(Builtin.append_ #[24,24] 24 #[s_ (o_ ⟨g,0,n_⟩) 0 0,s_ a l.length cap]).run J3 w= .ok (s_ a' l.length cap') w'/\w'.ownsRow bi 62 3 (s_ a' l.length cap') l.length (jq.flat l)/\w.grownBy w' (o_ g)/\(∀ q∈blk a',q=g\/q=w.heap.size)/\ ∃ q,a'=o_ ⟨q,0,n_⟩:=by
 cases l with
 | nil=>
  obtain ⟨i,hi,e⟩:=Kw.1 ZS;simp only [Kx] at e;refine ⟨o_ ⟨g,0,n_⟩,0,w,?_,i6 hg hbg,⟨rfl,rfl,rfl,Ki _,fun _ _ _=>rfl⟩,(fun q hq=>by simp [blk] at hq; exact .inl hq),g,rfl⟩;cases a with
  | none=>simp [Builtin.append_,T0 underlying24,sizeOf,typeInfo,hi,Builtin.lenOf,Builtin.firstCells,storeCells]
  | some ad=>simp [Builtin.append_,T0 underlying24,sizeOf,typeInfo,hi,Builtin.lenOf,Builtin.firstCells,storeCells,loadCells,loadCellsFrom]
 | cons x r=>
  obtain ⟨a',c',w',h1,h2,h3,h4⟩:=aaG w bi g hg hbg a (x :: r) cap h hl lY;refine ⟨a',c',w',h1,h2,h3,h4,?_⟩;obtain ⟨a2,c2,e2,hr⟩:=cr h2;cases e2;obtain ⟨q,hq,-⟩:=hr 0 (i_ j_ x.at_) (by simp [Kind.flat,jq,VE]);exact ⟨q,hq⟩
end
end Go.Proofs.YtckenjkcmajicaaGreat
