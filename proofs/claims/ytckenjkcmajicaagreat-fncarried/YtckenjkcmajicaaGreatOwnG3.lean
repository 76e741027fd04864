/- What the proof leans on, part 3. -/
import Derived.Test.YtckenjkcmajicaaGreatOwnJ
import Derived.RangeFuncCalls
import Derived.RangeFuncKeeps
import Derived.Shelf.SlIterI.Nil
import Derived.Shelf.SortM.Plain
import Derived.Shelf.SortM.SortNone
import Derived.Test.YtckenjkcmajicaaGreatProg
set_option linter.all false
set_option maxRecDepth 100000
set_option maxHeartbeats 8000000
open Go.Proofs.Tryz
open Go renaming World->w_,Value->v_,Addr->d_,TypeId->T_
open Go.Ending renaming returned->r_
open Go.Obj renaming cells->c_
open Go.RowKit renaming Below->B_,Hid->da
open Go.Value renaming bool->b_
open Option renaming some->o_,none->n_
open Go.RowKit.Below renaming heap_alloc->adD
open Go.World renaming putObj_heap_other->adX

namespace Go.Proofs.YtckenjkcmajicaaGreat
open Go.RowKit
def Kept (B:Nat)(W W':w_):Prop:=W.heap.size<=W'.heap.size/\∀b,B<=b->b<W.heap.size->W'.heap[b]? =W.heap[b]?
def ZL (B:Nat)(W W':w_):Prop:=W.heap.size<=W'.heap.size/\∀b c t fr,B<=b->W.heap[b]? =o_ (c_ c t fr)->W'.heap[b]? =o_ (c_ c t fr)
def Kept.refl (B:Nat)(W:w_):Kept B W W:=⟨Ki _,λ_ _ _=>rfl⟩
def Kept.trans {B:Nat}{X Y Z:w_}(h:Kept B X Y)(k:Kept B Y Z):Kept B X Z:=
 ⟨LG h.1 k.1,λb hb hl=>(k.2 b hb (Kn hl h.1)).trans (h.2 b hb hl)⟩
def Kept.alloc (B:Nat)(W:w_)(o:Obj):Kept B W (W.alloc o):=⟨zy,λb _ hl=>adD W o b hl⟩
def Kept.setCell {B:Nat}(W:w_){p:d_}(hp:p.block<B)(v:v_):Kept B W (W.setCell p v):=⟨zy,λb hb _=>K6 W p v b zw⟩
def Kept.drew (B:Nat)(W:w_):Kept B W W.drew:=⟨Ki _,λ_ _ _=>rfl⟩
def Kept.dI {B:Nat}{W W':w_}(h:B_ W.heap.size W W'):Kept B W W':=⟨h.size,λb _ hl=>h.block b hl⟩
def Kept.cells {B:Nat}{W W':w_}(h:Kept B W W'):ZL B W W':=
 ⟨h.1,λb _ _ _ hb hc=>(h.2 b hb (J2.1 hc).1).trans hc⟩
def ZL.trans {B:Nat}{X Y Z:w_}(h:ZL B X Y)(k:ZL B Y Z):ZL B X Z:=
 ⟨LG h.1 k.1,λb c t fr hb hc=>k.2 b c t fr hb (h.2 b c t fr hb hc)⟩
def Zh {B l:Nat}{W:w_}(h:B<=l)(o:Obj):B_ B W (W.putObj l o):=
 ⟨rfl,rfl,rfl,zy,λ_ hk=>adX zw⟩
end Go.Proofs.YtckenjkcmajicaaGreat

namespace Go.Proofs.YtckenjkcmajicaaGreat
open Go.RowKit
def Zp (E:T_)(B:Nat)(W W':w_):Prop:=W.heap.size<=W'.heap.size/\∀b,B<=b->b<W.heap.size->(∀c fr,W.heap[b]? ≠o_ (c_ c E fr))->W'.heap[b]? =W.heap[b]?
def Zu (E:T_)(B:Nat)(W W':w_):Prop:=W.heap.size<=W'.heap.size/\∀b c t fr,t≠E->B<=b->W.heap[b]? =o_ (c_ c t fr)->W'.heap[b]? =o_ (c_ c t fr)
def Zp.refl (E:T_)(B:Nat)(W:w_):Zp E B W W:=⟨Ki _,λ_ _ _ _=>rfl⟩
def Zp.trans {E:T_}{B:Nat}{X Y Z:w_}(h:Zp E B X Y)(k:Zp E B Y Z):Zp E B X Z:=
 ⟨LG h.1 k.1,λb hb hl hn=>(k.2 b hb (Kn hl h.1) (by rw[h.2 b hb hl hn];exact hn)).trans (h.2 b hb hl hn)⟩
def Zp.of {E:T_}{B:Nat}{X Y:w_}(h:Kept B X Y):Zp E B X Y:=⟨h.1,λb hb hl _=>h.2 b hb hl⟩
def Zp.cells {E:T_}{B:Nat}{W W':w_}(h:Zp E B W W'):Zu E B W W':=
 ⟨h.1,λb c t fr ht hb hc=>(h.2 b hb (J2.1 hc).1 (λc2 fr2 e=>by rw[hc]at e;cases e;exact ht rfl)).trans hc⟩
def Zu.trans {E:T_}{B:Nat}{X Y Z:w_}(h:Zu E B X Y)(k:Zu E B Y Z):Zu E B X Z:=
 ⟨LG h.1 k.1,λb c t fr ht hb hc=>k.2 b c t fr ht hb (h.2 b c t fr ht hb hc)⟩
def Zy {E:T_}{B:Nat}{W:w_}{l:Nat}{r:Loop}(h:W.heap[l]? =o_ (.loop r))(o:Obj):Zu E B W (W.putObj l o):=
 ⟨zy,λb c t fr _ _ hc=>(adX (λe=>by subst e;rw[h]at hc;cases hc)).trans hc⟩
def abB (E:T_)(P:Program)(Xi:Nat)(fa:Array v_)(encs:Nat->Array v_)(N B:Nat):Prop:=
 ∀(l:Nat)(M:Nat->w_->Prop)(YP:w_->Prop)(W:w_),B<=W.heap.size->(∀k X o,M k X->M k (X.alloc o))->
  (∀k X,k<N->M k X->YieldAt Fence.wide 4 P l (encs k) X λe X'=>(e=r_ (b_ true)/\M (k+1) X'/\Zu E B X X')\/(e=r_ (b_ false)/\YP X'))->
  M 0 W->CallsIn Fence.wide 5 P Xi (fa++#[.func (.yield l) #[] #[]]) W λe X'=>(∃v,e=r_ v)/\(M N X'\/YP X')
def Z7 (E:T_)(B:Nat)(J:Nat->w_->Prop)(Jx:w_->Prop)(k:Nat)(W:w_):Exit->Act->w_->Prop
 |.normal,_,W'=>Zp E B W W'/\J (k+1) W'
 |.ret,_,W'=>Zp E B W W'/\Jx W'
 |_,_,_=>False
def aae {E:T_}{P:Program}{g:Operand}{ps:Array Tmp}{assign body:Code}{Q:Exit->Act->w_->Prop}{a:Act}{w:w_}{Xi:Nat}{fa:Array v_}
  (hg:a.eval g=.func (.func Xi) fa #[])(eg:∀args w,(callFunc Xi args).run P w=.ok (.enter Xi args) w){encs:Nat->Array v_}{N:Nat}(hit:abB E P Xi fa encs N w.heap.size)(hps:∀k,(encs k).size=ps.size)
  (J:Nat->w_->Prop)(Jx:w_->Prop)(hJa:∀k X o,J k X->J k (X.alloc o))(hJp:∀k X l r o,w.heap.size<=l->X.heap[l]? =o_ (.loop r)->J k X->J k (X.putObj l o))(hJx:∀X l r o,w.heap.size<=l->X.heap[l]? =o_ (.loop r)->Jx X->Jx (X.putObj l o))(h0:J 0 w)
  (YJ:Nat->Act->w_->Prop)(hAx:∀k a X l r o,X.heap[l]? =o_ (.loop r)->YJ k a X->YJ k a (X.putObj l o))
  (hassign:∀(l k:Nat)(W:w_)(K:Act->w_->Prop),k<N->J k W->w.heap.size<=W.heap.size->(∀a' W',Zp E w.heap.size W W'->J k W'->YJ k a' W'->K a' W')->
   assign.wpIn (Fence.wide.inRound l) 4 P (Exit.then K (λ_ _ _=>False)) {tmps:=(ps.zip (encs k)).foldl (λt(p,v)=>t.setIfInBounds p v) a.tmps,defers:=[]} W)
  (hbody:∀(l k:Nat)(a':Act)(W:w_),k<N->J k W->YJ k a' W->w.heap.size<=W.heap.size->body.wpIn (Fence.wide.inRound l) 4 P (Z7 E w.heap.size J Jx k W) a' W)
  (hdone:∀W,J N W->W.heap[w.heap.size]? =o_ (.deferred (o_ []))->Q .normal {a with defers:={target:=.collected w.heap.size,args:=#[]}::a.defers} W)
  (hstop:∀W,Jx W->W.heap[w.heap.size]? =o_ (.deferred (o_ []))->Q .ret {a with defers:={target:=.collected w.heap.size,args:=#[]}::a.defers} W):
  (Code.rangeFunc g ps assign body).wpIn Fence.wide 6 P Q a w:=by
 refine wpIn_rangeFunc λfn _=>?_
 -- the record of the loop, in each of its states
 let Zn:LoopState->Option Code->Loop:=λst pe=>Loop.mk st pe fn a.tmps ps assign body w.heap.size
 let B:=w.heap.size
 let W1:=(w.alloc (.deferred (o_ []))).alloc (.loop (Zn .ready n_))
 have s1:W1.heap.size=B+1+1:=by simp[W1,B]
 have hl1:W1.heap[B+1]? =o_ (.loop (Zn .ready n_)):=by
  have:=World.alloc_heap_new (w.alloc (.deferred (o_ []))) (.loop (Zn .ready n_))
  rwa[RR]at this
 have hd1:W1.heap[B]? =o_ (.deferred (o_ [])):=(adD _ _ _ (by simp [B])).trans (World.alloc_heap_new w _);have b1:B_ B w W1:=((Kp _ _).alloc (Ki _) _).alloc zy _;refine ⟨B+1,[{target:=.collected B,args:=#[]}],W1,{target:=.fn (.func Xi) #[],args:=fa++#[.func (.yield (B+1)) #[] #[]]},W1,Xi,fa++#[.func (.yield (B+1)) #[] #[]],W1,
  run_enterLoop_outer _ _ _ _ _,?_,λ_ _=>trivial,?_,λh=>by simp[Fence.wide]at h,?_⟩
 .simp only[resolve,hg]
  simp[go_sem]
 .simp [invoke,go_sem,eg]
 let M:Nat->w_->Prop:=λk X=>J k X/\X.heap[B+1]? =o_ (.loop (Zn .ready n_))/\X.heap[B]? =o_ (.deferred (o_ []))
 let YP:w_->Prop:=λX=>Jx X/\X.heap[B+1]? =o_ (.loop (Zn .done (o_ .ret)))/\X.heap[B]? =o_ (.deferred (o_ []))
 refine(hit (B+1) M YP W1 zw ?_ ?_ ⟨hJa 0 _ _ (hJa 0 _ _ h0),hl1,hd1⟩).mono ?_
 .rintro k X o ⟨hj,hl,hd⟩
  have z:=(J2.1 hl).1;exact⟨hJa k _ o hj,(adD X o _ z).trans hl,(adD X o _ zw).trans hd⟩
 .rintro k X hk ⟨hj,hl,hd⟩
  have z:=(J2.1 hl).1;refine⟨fn,_,assign,body,run_yield (r:=Zn .ready n_) hl (hps k),roundIn_of_wpIn trivial (hassign (B+1) k X _ hk hj zw ?_)⟩;intro a' Y Ze YX YF;have YB:Y.heap[B+1]? =o_ (.loop (Zn .ready n_)):=(Ze.2 _ zw z (λc fr h=>by rw[hl]at h;cases h)).trans hl;have YQ:Y.heap[B]? =o_ (.deferred (o_ [])):=(Ze.2 _ (Ki _) zw (λc fr h=>by rw[hd]at h;cases h)).trans hd;have YZ:=(J2.1 YB).1;refine⟨_,run_beginRound YB rfl,?_⟩;have YT:(Y.putObj (B+1) (.loop (Zn .busy n_))).heap[B+1]? =o_ (.loop (Zn .busy n_)):=World.putObj_heap_same YZ;have Za:(Y.putObj (B+1) (.loop (Zn .busy n_))).heap[B]? =o_ (.deferred (o_ [])):=(adX zw).trans YQ;refine wpIn_mono (hbody (B+1) k a' _ hk (hJp k _ _ _ _ zw YB YX) (hAx k a' Y _ _ _ YB YF) Zfu) ?_;rintro e a3 V hp;have fin:Zp E B (Y.putObj (B+1) (.loop (Zn .busy n_))) V->V.heap[B+1]? =o_ (.loop (Zn .busy n_))/\V.heap[B]? =o_ (.deferred (o_ [])):=λYD=>
   ⟨(YD.2 _ zw (by simp only[World.putObj_size];exact YZ) (λc fr h=>by rw[YT]at h;cases h)).trans YT,(YD.2 _ (Ki _) Zfu (λc fr h=>by rw[Za]at h;cases h)).trans Za⟩
  cases e with
  |normal=>
   obtain ⟨YD,Y2⟩:=hp;obtain ⟨l3,d3⟩:=fin YD;have z3:=(J2.1 l3).1;exact ⟨_,_,run_endRound n_ l3,.inl ⟨rfl,⟨hJp _ _ _ _ _ zw l3 Y2,World.putObj_heap_same z3,(adX zw).trans d3⟩,
    (Ze.cells.trans (Zy YB _)).trans (YD.cells.trans (Zy l3 _))⟩⟩
  |ret=>
   obtain⟨YD,Y2⟩:=hp;obtain⟨l3,d3⟩:=fin YD;have z3:=(J2.1 l3).1;exact⟨_,_,run_endRound (o_ .ret) l3,.inr ⟨rfl,⟨hJx _ _ _ _ zw l3 Y2,World.putObj_heap_same z3,(adX zw).trans d3⟩⟩⟩
  |exit _=>exact hp.elim
  |goto _=>exact hp.elim
  |panic _=>exact hp.elim
  |outgrown=>exact hp.elim
 .rintro e X ⟨⟨v,rfl⟩,⟨hj,hl,hd⟩|⟨hj,hl,hd⟩⟩
  .have z:=(J2.1 hl).1
   exact⟨n_,_,run_endLoop hl (by simp[Zn]),hdone _ (hJp _ _ _ _ _ zw hl hj) ((adX zw).trans hd)⟩
  .have z:=(J2.1 hl).1
   exact⟨o_ .ret,_,run_endLoop hl (by simp[Zn]),wpIn_ret (hstop _ (hJx _ _ _ _ zw hl hj) ((adX zw).trans hd))⟩
end Go.Proofs.YtckenjkcmajicaaGreat

namespace Go.Proofs
open Go.Shelf
def Tryz.keysOpen_ren:Go.Shelf.Ren:=⟨λ|7=>40|10=>70|n=>n,λ|23=>66|26=>2|3=>59|28=>95|0=>0|27=>94|33=>153|4=>4|n=>n,λ|n=>n⟩
def Tryz.keysOpen:Go.Proofs.SlLaysZI.n7 Tryz.prog Tryz.keysOpen_ren:= {
 mixed:=YtckenjkcmajicaaGreat.ZbG
 f7:=⟨Tryz.f40.name,by decide,func40.trans (congrArg o_ YtckenjkcmajicaaGreat.ZbG)⟩
 f10:=⟨Tryz.f70.name,by decide,func70.trans (congrArg o_ YtckenjkcmajicaaGreat.ZbG)⟩
 t0:=underlying0
 a0:=Tryz.isAgg0
 z0:=Tryz.sizeOf0
 v0:=Tryz.zeroValue0
 t4:=underlying4
 a4:=Tryz.isAgg4
 z4:=Tryz.sizeOf4
 v4:=Tryz.zeroValue4
 t23:=underlying66
 a23:=Tryz.isAgg66
 z23:=Tryz.sizeOf66
 v23:=Tryz.zeroValue66
 t26:=underlying2
 a26:=Tryz.isAgg2
 z26:=Tryz.sizeOf2
 v26:=Tryz.zeroValue2
 t27:=underlying94
 a27:=Tryz.isAgg94
 z27:=Tryz.sizeOf94
 v27:=Tryz.zeroValue94
 t28:=underlying95
 a28:=Tryz.isAgg95
 z28:=Tryz.sizeOf95
 v28:=Tryz.zeroValue95
 t33:=underlying153
 a33:=Tryz.isAgg153
 z33:=Tryz.sizeOf153
 v33:=Tryz.zeroValue153}
end Go.Proofs
