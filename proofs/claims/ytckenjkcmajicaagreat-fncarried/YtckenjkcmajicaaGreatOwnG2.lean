/- What the proof leans on, part 2. -/
import Derived.Test.YtckenjkcmajicaaGreatOwnJ
import Derived.Deep.RegionHeld
set_option linter.all false
set_option maxRecDepth 100000
set_option maxHeartbeats 8000000
open Go renaming World->w_,Value->v_,Calls->k_,TypeId->T_
open Go.Ending renaming returned->r_
open Go.Obj renaming cells->c_
open Option renaming some->o_,none->n_
open Option renaming getD_some->Ka,map_some->J9

open Go.RowKit renaming Hid->da
namespace Go.Proofs.YtckenjkcmajicaaGreat
open Go
section
variable {P:Program}{ops:Array Oper}{Q:Exit->Act->w_->Prop}{md:Region.Mode}{S:w_->Prop}
def Comes (P:Program)(S:w_->Prop)(v:v_):Result Next->Prop
  |.ok (.value u) w'=>u=v/\S w'
  |.ok .skip w'=>v=undef/\S w'
  |.ok (.enter f args) w'=>k_ P f args w' (λe w''=>e=r_ v/\S w'')
  |_=>False
def Does (P:Program)(ops:Array Oper)(S:w_->Prop)(o:Oper)(v:v_)(a:Act):Prop:=
  (Region.wanted o (yielded ops a.tmps)=true/\∀w,S w->Comes P S v ((execOp a.eval o).run P w))\/
  (Region.wanted o (yielded ops a.tmps)=false/\v=undef)
def Does.of_same {o:Oper}{v:v_}{a a':Act}(hy:Does P ops S o v a)(he:execOp a'.eval o=execOp a.eval o)
    (hw:Region.wanted o (yielded ops a'.tmps)=Region.wanted o (yielded ops a.tmps)):Does P ops S o v a':=by
  unfold Does at*;rw[he,hw];exact hy
def Does.wpOp {i:Nat}{o:Oper}{v:v_}{a:Act}(hi:ops[i]? =o_ o)(hy:Does P ops S o v a)
    {K:Act->w_->Prop}{w:w_}(hS:S w)(h:∀w',S w'->K (a.put o.dst v) w'):wpOp P ops Q i K a w:=by
  unfold Go.wpOp;simp only[hi];rcases hy with⟨hw,hv⟩|⟨hw,rfl⟩
  . simp only[hw,if_true]
    refine .inl ?_;have hc:=hv w hS;unfold Oper.wp;generalize(execOp a.eval o).run P w=r at*;cases r with
    |ok n w'=>
      cases n<;>simp only[Comes,Oper.upon]at hc⊢
      case value u=>
        obtain⟨rfl,GH⟩:=hc;exact h _ GH
      case skip=>
        obtain⟨rfl,GH⟩:=hc;exact h _ GH
      case enter f args=>
        refine adn hc λe w'' he=>?_
        obtain⟨rfl,GH⟩:=he;exact h _ GH
    |halt x w'=>exact hc.elim
  . simp only[hw,J5,if_false]
    exact h _ hS
def xH {j:Nat}{oi oj:Oper}{v:v_}(hj:ops[j]? =o_ oj)(hap:oi.apart ops oj=true)
    (hsi:∀cs b,oi.op≠.select cs b)(hsj:∀cs b,oj.op≠.select cs b)
    (hQ:∀c a w,Q (.panic c) (a.put oi.dst v) w->Q (.panic c) a w){K:Act->w_->Prop}{a:Act}{w:w_}
    (hy:Does P ops S oi v a)(h:wpOp P ops Q j K (a.put oi.dst v) w):
    wpOp P ops Q j (λa' w'=>Does P ops S oi v a'/\K (a'.put oi.dst v) w') a w:=by
  obtain⟨h1,h2,h3⟩:=Oper.apart_spec hap;have keep:∀(a:Act),Does P ops S oi v a->∀u,Does P ops S oi v (a.put oj.dst u):=λa hy u=>
    hy.of_same (execOp_put oi hsi a oj.dst u h3) (wanted_put oi a oj.dst u h3)
  have keepD:∀d,Does P ops S oi v {a with defers:=d::a.defers}:=λd=>hy.of_same rfl rfl
  unfold wpOp at*;simp only[hj]at*;rw[wanted_put oj a oi.dst v h1]at h
  split
  . rename_i hw
    simp only[hw,if_true]at h;rcases h with h|⟨hasks,hlets⟩
    case inr=>exact .inr ⟨by unfold Oper.asks at*;rw[execOp_put oj hsj a oi.dst v h1]at hasks;exact hasks,hlets⟩
    refine .inl ?_;unfold Oper.wp at*;rw[execOp_put oj hsj a oi.dst v h1]at h;generalize(execOp a.eval oj).run P w=r at*;cases r with
    |ok n w'=>
      cases n<;>simp only[Oper.upon]at h⊢
      case value u=>exact⟨keep a hy u,by rw[<-Qc a v u h2];exact h⟩
      case skip=>exact⟨keep a hy _,by rw[<-Qc a v undef h2];exact h⟩
      case defer d=>
        refine⟨keep _ (keepD d) _,?_⟩;rw[<-Qc _ v undef h2, <-Act.put_defers];exact h
      case enter f args=>
        refine adn h λe w'' he=>?_
        cases e with
        |returned u=>exact⟨keep a hy u,by rw[<-Qc a v u h2];exact he⟩
        |panicked c=>exact hQ _ _ _ he
        |outgrown=>exact he
      case row row args=>exact Rows.mono h λu w'' he=>⟨keep a hy u,by rw[<-Qc a v u h2];exact he⟩
    |halt x w'=>
      cases x<;>simp only[Oper.upon]at h⊢
      case panic u=>exact hQ _ _ _ h
  . rename_i hw
    simp only[hw]at h;exact⟨keep a hy _,by rw[<-Qc a v undef h2];exact h⟩
def gR (P:Program)(md:Region.Mode)(ops:Array Oper)(Q:Exit->Act->w_->Prop)(S:w_->Prop):Nat->Array Bool->Act->Prop
  |0,RV,a=>Region.ready md ops RV=[]/\∀w,S w->Q .normal a w
  |fuel+1,RV,a=>
    (Region.ready md ops RV=[]->∀w,S w->Q .normal a w)/\
    ∀i∈Region.ready md ops RV,∀w,S w->wpOp P ops Q i (λa' w'=>S w'/\gR P md ops Q S fuel (RV.setIfInBounds i true) a') a w
def pW :∀(fuel:Nat)(RV:Array Bool)(a:Act)(w:w_),S w->gR P md ops Q S fuel RV a->wpAny P md ops Q fuel RV a w
  |0,_,_,w,hS,h=>⟨h.1,h.2 w hS⟩
  |fuel+1,_,_,w,hS,h=>⟨λh0=>h.1 h0 w hS,λi hi=>Qd (λa' w' h'=>pW fuel _ a' w' h'.1 h'.2) (h.2 i hi w hS)⟩
def yd {i:Nat}{oi:Oper}{v:v_}(hi:ops[i]? =o_ oi)(hsel:∀(j:Nat)(o:Oper) cs b,ops[j]? =o_ o->o.op≠.select cs b)
    (hQ:∀c a w,Q (.panic c) (a.put oi.dst v) w->Q (.panic c) a w):
    ∀(fuel:Nat)(RV:Array Bool)(a:Act),
      (∀j oj,ops[j]? =o_ oj->j≠i->RV.getD j true=false->(∀e∈oj.after,Region.binds md e=true->e.on≠i)->oi.apart ops oj=true)->
      i∈Region.ready md ops RV->Does P ops S oi v a->
      gR P md ops Q S fuel (RV.setIfInBounds i true) (a.put oi.dst v)->gR P md ops Q S (fuel+1) RV a:=by
  intro fuel
  induction fuel with
  |zero=>
    intro RV a _ hr hy H;refine⟨λh=>ZeZ,λj hj w hS=>?_⟩;by_cases hji:j=i
    . subst hji
      exact Zbb
    . have:=Qe hj hji
      rw[H.1]at this;cases this
  |succ fuel ih=>
    intro RV a hfree hr hy H;refine⟨λh=>ZeZ,λj hj w hS=>?_⟩;by_cases hji:j=i
    . subst hji
      exact Zbb
    . have h1:=H.2 j (Qe hj hji) w hS
      obtain⟨hjun,oj,hoj,hall⟩:=Qf.1 hj;have hnot:∀e∈oj.after,Region.binds md e=true->e.on≠i:=λe he hb heq=>by
        exact Z_
      have h2:=xH hoj (hfree j oj hoj hji hjun hnot) (λcs b=>hsel i oi cs b hi) (λcs b=>hsel j oj cs b hoj) hQ hy h1;have hfree':∀k ok,ops[k]? =o_ ok->k≠i->(RV.setIfInBounds j true).getD k true=false->
          (∀e∈ok.after,Region.binds md e=true->e.on≠i)->oi.apart ops ok=true:=λk ok hk hki hun hno=>by
        exact ZaK
      refine Qd (λa' w' h3=>⟨h3.2.1,ih (RV.setIfInBounds j true) a' hfree' (Qe hr (Ne.symm hji)) h3.1 ?_⟩) h2;rw[Array.setIfInBounds_comm _ _ hji];exact h3.2.2
def Fq {i:Nat}{oi:Oper}{v:v_}{fuel:Nat}{RV:Array Bool}{a:Act}(hi:ops[i]? =o_ oi)
    (hs:Region.noSelect ops=true)(hf:Region.free md ops RV i=true)(hr:(Region.ready md ops RV).contains i=true)
    (hQ:∀c a w,Q (.panic c) (a.put oi.dst v) w->Q (.panic c) a w)(hy:Does P ops S oi v a)
    (h:gR P md ops Q S fuel (RV.setIfInBounds i true) (a.put oi.dst v)):gR P md ops Q S (fuel+1) RV a:=
  yd hi (Region.noSelect_spec hs) hQ fuel RV a (Region.free_spec hi hf) (by simpa using hr) hy h
def IK {i:Nat}(d:Option Tmp){oi:Oper}{v:v_}{fuel:Nat}{RV:Array Bool}{a:Act}(hi:ops[i]? =o_ oi)(hd:oi.dst=d)
    (hs:Region.noSelect ops=true)(hf:Region.free md ops RV i=true)(hr:(Region.ready md ops RV).contains i=true)
    (hQ:∀c a w,Q (.panic c) (a.put d v) w->Q (.panic c) a w)(hy:Does P ops S oi v a)
    (h:gR P md ops Q S fuel (RV.setIfInBounds i true) (a.put d v)):gR P md ops Q S (fuel+1) RV a:=by
  subst hd;exact Fq hi hs hf hr hQ hy h
def Jj (md:Region.Mode)(ops:Array Oper)(RV:Array Bool)(i:Nat)(oi:Oper)(d:Option Tmp):Bool:=decide (oi.dst=d)&&Region.noSelect ops&&Region.free md ops RV i&&(Region.ready md ops RV).contains i
def tm (i:Nat)(d:Option Tmp){oi:Oper}{v:v_}{fuel:Nat}{RV:Array Bool}{a:Act}(hi:ops[i]? =o_ oi)(hc:Jj md ops RV i oi d=true)
    (hQ:∀c a w,Q (.panic c) (a.put d v) w->Q (.panic c) a w)(hy:Does P ops S oi v a)
    (h:gR P md ops Q S fuel (RV.setIfInBounds i true) (a.put d v)):gR P md ops Q S (fuel+1) RV a:=by
  simp only[Jj,J7,decide_eq_true_eq]at hc;exact IK d hi hc.1.1.1 hc.1.1.2 hc.1.2 hc.2 hQ hy h
def pt (a:Act)(d:Tmp)(v:v_):a.put (o_ d) v={a with tmps:=a.tmps.setIfInBounds d v}:=rfl
def sb {α:Type}{l:List α}{i:Nat}{x:α}:l.toArray.setIfInBounds i x=(l.set i x).toArray:=by simp
def s0 {α:Type}{l:List α}{x y:α}:(x::l).set 0 y=y::l:=rfl
def s1 {α:Type}{l:List α}{x y:α}{n:Nat}:(x::l).set (n+1) y=x::l.set n y:=rfl
def bk {RV:Array Bool}{a:Act}(hr:Region.ready md ops RV=[])(h:∀w,S w->Q .normal a w):∀fuel,gR P md ops Q S fuel RV a
  |0=>⟨hr,h⟩
  |_+1=>⟨λ_=>h,by rw[hr];simp⟩
def aT {id:Nat}{a:Act}{w:w_}(S:w_->Prop)(hm:P.follows .mixedOrders=true)(hS:S w.drew)
    (h:gR P .any ops Q S ops.size (Array.replicate ops.size false) a):(Code.region id ops true).wp P Q a w:=
  wp_region_any hm (pW _ _ _ _ hS h)
/-! ### A region whose last operation may turn what the others keep -/
def qe (md:Region.Mode)(ops:Array Oper)(RV:Array Bool):Prop:=∀(j:Nat)(o:Oper),ops[j]? =o_ o->RV.getD j false=true->∀e∈o.after,Region.binds md e=true->RV.getD e.on false=true
def tM (md:Region.Mode)(ops:Array Oper)(RV:Array Bool):Bool:=
  (List.range ops.size).all λj=> !RV.getD j false||((ops[j]?).map λo=>o.after.all λe=> !Region.binds md e||RV.getD e.on false).getD true
def yp {RV:Array Bool}(h:tM md ops RV=true):qe md ops RV:=λj o ho hl e he hb=>by
  simp only[tM,PZ,List.mem_range]at h;have h1:=h j (J2.1 ho).1;rw[hl,ho]at h1;simp only[Bool.not_true,Qg,J9,Ka,aeb,Kb,PR]at h1;rcases h1 e he with h2|h2
  . rw[hb]at h2;cases h2
  . exact h2
def qe.set {RV:Array Bool}{j:Nat}(h:qe md ops RV)(hj:j∈Region.ready md ops RV):qe md ops (RV.setIfInBounds j true):=λk o ho hl e he hb=>by
  obtain⟨_,o',ho',hall⟩:=Qf.1 hj;by_cases hjk:j=k
  . subst hjk
    rw[ho']at ho;cases ho;exact getD_set_true (hall e he hb)
  . rw[getD_set_ne false hjk]at hl
    exact getD_set_true (h k o ho hl e he hb)
def preB (md:Region.Mode)(ops:Array Oper):Nat->Nat->Nat->Bool
  |0,x,i=>x==i
  |n+1,x,i=>x==i||((ops[x]?).map λo=>o.after.any λe=>Region.binds md e&&preB md ops n e.on i).getD false
def vi {RV:Array Bool}(hc:qe md ops RV){i:Nat}:∀(n x:Nat),RV.getD x false=true->preB md ops n x i=true->RV.getD i false=true
  |0,x,hx,h=>by
    have e:x=i:=by simpa[preB]using h
    rw[<-e];exact hx
  |n+1,x,hx,h=>by
    simp only[preB,Kb,beq_iff_eq]at h;rcases h with e|h
    . rw[<-e]
      exact hx
    . cases ho:ops[x]?with
      |none=>rw[ho]at h;simp at h
      |some o=>
        rw[ho]at h;simp only[J9,Ka,Array.any_eq_true']at h;obtain⟨e,he,h2⟩:=h;simp only[J7]at h2;exact vi hc n e.on (hc x o ho hx e he h2.1) h2.2
def rV {RV:Array Bool}(hc:qe md ops RV){i L n:Nat}(hp:preB md ops n L i=true)(hne:¬i=L)(hi:RV.getD i true=false):L∉Region.ready md ops RV:=λhL=>by
  obtain⟨_,o,ho,hall⟩:=Qf.1 hL;have hi':¬RV.getD i false=true:=λh=>by
    rcases Nat.lt_or_ge i RV.size with h'|h'
    . simp[h']at h hi
      rw[h]at hi;cases hi
    . simp[Array.getElem?_eq_none h']at h
  cases n with
  | zero => exact hne (by have e:L=i:=by simpa[preB]using hp
                          exact e.symm)
  |succ n=>
    simp only[preB,Kb,beq_iff_eq]at hp;rcases hp with e|h
    . exact hne e.symm
    . rw[ho]at h
      simp only[J9,Ka,Array.any_eq_true']at h;obtain⟨e,he,h2⟩:=h;simp only[J7]at h2;exact hi' (vi hc n e.on (hall e he h2.1) h2.2)
def kS (P:Program)(md:Region.Mode)(ops:Array Oper)(Q:Exit->Act->w_->Prop)(S:w_->Prop)(L:Nat):Nat->Array Bool->Act->Prop
  |0,_,_=>False
  |fuel+1,RV,a=>
    Region.ready md ops RV≠[]/\
    ∀i∈Region.ready md ops RV,∀w,S w->
      (i=L/\Region.ready md ops (RV.setIfInBounds L true)=[]/\wpOp P ops Q L (λa' w'=>Q .normal a' w') a w)\/
      (i≠L/\wpOp P ops Q i (λa' w'=>S w'/\kS P md ops Q S L fuel (RV.setIfInBounds i true) a') a w)
def pM {L:Nat}:∀(fuel:Nat)(RV:Array Bool)(a:Act)(w:w_),S w->kS P md ops Q S L fuel RV a->wpAny P md ops Q fuel RV a w
  |0,_,_,_,_,h=>h.elim
  | fuel + 1, RV, a, w, hS, h => ⟨λh0=>absurd h0 h.1,λi hi=>by
    rcases h.2 i hi w hS with⟨rfl,h1,h2⟩|⟨_,h2⟩
    . exact Qd (λa' w' h'=>wpAny_done h1 h' fuel) h2
    . exact Qd (λa' w' h'=>pM fuel _ a' w' h'.1 h'.2) h2⟩
def yw {L i n:Nat}{oi:Oper}{v:v_}(hi:ops[i]? =o_ oi)(hsel:∀(j:Nat)(o:Oper) cs b,ops[j]? =o_ o->o.op≠.select cs b)
    (hQ:∀c a w,Q (.panic c) (a.put oi.dst v) w->Q (.panic c) a w)(hp:preB md ops n L i=true)(hne:¬i=L):
    ∀(fuel:Nat)(RV:Array Bool)(a:Act),qe md ops RV->
      (∀j oj,ops[j]? =o_ oj->j≠i->RV.getD j true=false->(∀e∈oj.after,Region.binds md e=true->e.on≠i)->oi.apart ops oj=true)->
      i∈Region.ready md ops RV->Does P ops S oi v a->
      kS P md ops Q S L fuel (RV.setIfInBounds i true) (a.put oi.dst v)->kS P md ops Q S L (fuel+1) RV a:=by
  intro fuel
  induction fuel with
  |zero=>intro RV a _ _ _ _ H;exact H.elim
  |succ fuel ih=>
    intro RV a hcl hfree hr hy H;refine⟨λh=>ZeZ,λj hj w hS=>?_⟩;have hjL:¬j=L:=λe=>by
      subst e;exact rV hcl hp hne (Qf.1 hr).1 hj
    refine .inr ⟨hjL,?_⟩;by_cases hji:j=i
    . subst hji
      exact Zbb
    . have h1:=(H.2 j (Qe hj hji) w hS).resolve_left (λh=>hjL h.1)
      obtain⟨hjun,oj,hoj,hall⟩:=Qf.1 hj;have hnot:∀e∈oj.after,Region.binds md e=true->e.on≠i:=λe he hb heq=>by
        exact Z_
      have h2:=xH hoj (hfree j oj hoj hji hjun hnot) (λcs b=>hsel i oi cs b hi) (λcs b=>hsel j oj cs b hoj) hQ hy h1.2;have hfree':∀k ok,ops[k]? =o_ ok->k≠i->(RV.setIfInBounds j true).getD k true=false->
          (∀e∈ok.after,Region.binds md e=true->e.on≠i)->oi.apart ops ok=true:=λk ok hk hki hun hno=>by
        exact ZaK
      refine Qd (λa' w' h3=>⟨h3.2.1,ih (RV.setIfInBounds j true) a' (hcl.set hj) hfree' (Qe hr (Ne.symm hji)) h3.1 ?_⟩) h2;rw[Array.setIfInBounds_comm _ _ hji];exact h3.2.2
def I1 {L i:Nat}(n:Nat)(d:Option Tmp){oi:Oper}{v:v_}{fuel:Nat}{RV:Array Bool}{a:Act}(hi:ops[i]? =o_ oi)(hd:oi.dst=d)
    (hs:Region.noSelect ops=true)(hf:Region.free md ops RV i=true)(hr:(Region.ready md ops RV).contains i=true)(hp:(preB md ops n L i&&(i !=L)&&tM md ops RV)=true)
    (hQ:∀c a w,Q (.panic c) (a.put d v) w->Q (.panic c) a w)(hy:Does P ops S oi v a)
    (h:kS P md ops Q S L fuel (RV.setIfInBounds i true) (a.put d v)):kS P md ops Q S L (fuel+1) RV a:=by
  subst hd;simp only[J7,bne_iff_ne,ne_eq]at hp;exact yw hi (Region.noSelect_spec hs) hQ hp.1.1 hp.1.2 fuel RV a (yp hp.2) (Region.free_spec hi hf) (by simpa using hr) hy h
def lsB (md:Region.Mode)(ops:Array Oper)(RV:Array Bool)(i L n:Nat)(oi:Oper)(d:Option Tmp):Bool:=Jj md ops RV i oi d&&(preB md ops n L i&&(i !=L)&&tM md ops RV)
def ls {L:Nat}(i n:Nat)(d:Option Tmp){oi:Oper}{v:v_}{fuel:Nat}{RV:Array Bool}{a:Act}(hi:ops[i]? =o_ oi)(hc:lsB md ops RV i L n oi d=true)
    (hQ:∀c a w,Q (.panic c) (a.put d v) w->Q (.panic c) a w)(hy:Does P ops S oi v a)
    (h:kS P md ops Q S L fuel (RV.setIfInBounds i true) (a.put d v)):kS P md ops Q S L (fuel+1) RV a:=by
  simp only[lsB,Jj,J7,decide_eq_true_eq]at hc;exact I1 n d hi hc.1.1.1.1 hc.1.1.1.2 hc.1.1.2 hc.1.2 (by simp only[J7];exact hc.2) hQ hy h
def fL {L:Nat}{oL:Oper}{fuel:Nat}{RV:Array Bool}{a:Act}(hi:ops[L]? =o_ oL)(hr:Region.ready md ops RV=[L])(hr':Region.ready md ops (RV.setIfInBounds L true)=[])
    (hw:Region.wanted oL (yielded ops a.tmps)=true)(h:∀w,S w->oL.wp P a w (λa' w'=>Q .normal a' w') Q):kS P md ops Q S L (fuel+1) RV a:=by
  refine⟨by rw[hr];simp,λi hi' w hS=>?_⟩;rw[hr]at hi';have e:i=L:=by simpa using hi'
  refine .inl ⟨e,hr',?_⟩;unfold wpOp;simp only[hi,hw,if_true];exact .inl (h w hS)
def eD {id:Nat}{a:Act}{w:w_}(S:w_->Prop)(L:Nat)(hm:P.follows .mixedOrders=true)(hS:S w.drew)
    (h:kS P .any ops Q S L ops.size (Array.replicate ops.size false) a):(Code.region id ops true).wp P Q a w:=
  wp_region_any hm (pM _ _ _ _ hS h)
def np {o:Oper}{a:Act}(h:Region.wanted o (yielded ops a.tmps)=false):Does P ops S o undef a:=.inr ⟨h,rfl⟩
def bV {o:Oper}{v:v_}{a:Act}(hw:Region.wanted o (yielded ops a.tmps)=true)(h:∀w,S w->(execOp a.eval o).run P w=.ok (.value v) w):Does P ops S o v a:=
  .inl ⟨hw,λw hS=>by rw[h w hS];exact⟨rfl,hS⟩⟩
def iZ {o:Oper}{v:v_}{a:Act}{f:FuncId}{args:Array v_}(hw:Region.wanted o (yielded ops a.tmps)=true)(h:∀w,S w->(execOp a.eval o).run P w=.ok (.enter f args) w)
    (hc:∀w,S w->k_ P f args w (λe w'=>e=r_ v/\S w')):Does P ops S o v a:=
  .inl ⟨hw,λw hS=>by rw[h w hS];exact hc w hS⟩
end
end Go.Proofs.YtckenjkcmajicaaGreat

namespace Go.Proofs.YtckenjkcmajicaaGreat
open Go
section
variable {P:Program}{md:Region.Mode}{ops:Array Oper}{Q:Exit->Act->w_->Prop}{S:w_->Prop}
def ty {oi:Oper}{v:v_}{fuel:Nat}{RV:Array Bool}{a:Act}(d:Option Tmp)(hi:ops[ops.size-(fuel+1)]? =o_ oi)(_hd:oi.dst=d)(hc:Jj md ops RV (ops.size-(fuel+1)) oi d=true)
  (hQ:∀c a w,Q (.panic c) (a.put d v) w->Q (.panic c) a w)(hy:Does P ops S oi v a)
  (h:gR P md ops Q S fuel (RV.setIfInBounds (ops.size-(fuel+1)) true) (a.put d v)):gR P md ops Q S (fuel+1) RV a:=tm (ops.size-(fuel+1)) d hi hc hQ hy h
def ly {L:Nat}(n:Nat){oi:Oper}{v:v_}{fuel:Nat}{RV:Array Bool}{a:Act}(d:Option Tmp)(hi:ops[ops.size-(fuel+1)]? =o_ oi)(_hd:oi.dst=d)(hc:lsB md ops RV (ops.size-(fuel+1)) L n oi d=true)
  (hQ:∀c a w,Q (.panic c) (a.put d v) w->Q (.panic c) a w)(hy:Does P ops S oi v a)
  (h:kS P md ops Q S L fuel (RV.setIfInBounds (ops.size-(fuel+1)) true) (a.put d v)):kS P md ops Q S L (fuel+1) RV a:=ls (ops.size-(fuel+1)) n d hi hc hQ hy h
def yl {oi:Oper}{v:v_}{fuel:Nat}{RV:Array Bool}{a:Act}{d:Tmp}(hy:∀w,S w->(execOp a.eval oi).run P w=.ok (.value v) w)
  (h:gR P md ops Q S fuel (RV.setIfInBounds (ops.size-(fuel+1)) true) (a.put (o_ d) v))(hi:ops[ops.size-(fuel+1)]? =o_ oi:=by rfl)(_hd:oi.dst=o_ d:=by rfl)(hc:Jj md ops RV (ops.size-(fuel+1)) oi (o_ d)=true:=by kernel_rfl)
  (hQ:∀c a w,Q (.panic c) (a.put (o_ d) v) w->Q (.panic c) a w:=by exactλ_ _ _ h=>h)(hw:Region.wanted oi (yielded ops a.tmps)=true:=by kernel_rfl):gR P md ops Q S (fuel+1) RV a:=tm (ops.size-(fuel+1)) (o_ d) hi hc hQ (bV hw hy) h
def PI {oi:Oper}{v:v_}{fuel:Nat}{RV:Array Bool}{a a':Act}{d:Tmp}(h:gR P md ops Q S fuel (RV.setIfInBounds (ops.size-(fuel+1)) true) a')
  (hi:ops[ops.size-(fuel+1)]? =o_ oi:=by rfl)(hd:oi.dst=o_ d:=by rfl)(hy:∀w,S w->(execOp a.eval oi).run P w=.ok (.value v) w:=by intro w0 hS0;go_simp;try with_reducible rfl)(hc:Jj md ops RV (ops.size-(fuel+1)) oi (o_ d)=true:=by kernel_rfl)
  (hQ:∀c a w,Q (.panic c) (a.put (o_ d) v) w->Q (.panic c) a w:=by exactλ_ _ _ h=>h)(hw:Region.wanted oi (yielded ops a.tmps)=true:=by kernel_rfl)(ha:a.put (o_ d) v=a':=by simp only[pt,sb,s0,s1];rfl):gR P md ops Q S (fuel+1) RV a:=
 yl hy Zdg hi hd hc hQ hw
def agj {oi:Oper}{v:v_}{fuel:Nat}{RV:Array Bool}{a a':Act}{d:Tmp}(h:gR P md ops Q S fuel (RV.setIfInBounds (ops.size-(fuel+1)) true) a')
  (hi:ops[ops.size-(fuel+1)]? =o_ oi:=by rfl)(hd:oi.dst=o_ d:=by rfl)(hy:∀w,S w->(execOp a.eval oi).run P w=.ok (.value v) w:=by intro w0 hS0;(first|subst hS0|obtain⟨⟨q0,q1,q2,q3,q4,q5,q6,q7,q8,q9,kY,kV,lB,lz,Ch⟩,hH⟩:=hS0|obtain⟨⟨q0,q1,q2,q3,q4,q5,q6,q7⟩,hH⟩:=hS0|obtain⟨⟨q0,q1,q2,q3,q4,q5⟩,hH⟩:=hS0|obtain⟨⟨q0,q1,q2,q3,q4⟩,hH⟩:=hS0);go_simp;try with_reducible rfl)(hc:Jj md ops RV (ops.size-(fuel+1)) oi (o_ d)=true:=by kernel_rfl)
  (hQ:∀c a w,Q (.panic c) (a.put (o_ d) v) w->Q (.panic c) a w:=by exactλ_ _ _ h=>h)(hw:Region.wanted oi (yielded ops a.tmps)=true:=by kernel_rfl)(ha:a.put (o_ d) v=a':=by simp only[pt,sb,s0,s1];rfl):gR P md ops Q S (fuel+1) RV a:=
 yl hy Zdg hi hd hc hQ hw
def nl {oi:Oper}{fuel:Nat}{RV:Array Bool}{a:Act}{d:Tmp}
  (h:gR P md ops Q S fuel (RV.setIfInBounds (ops.size-(fuel+1)) true) (a.put (o_ d) undef))(hi:ops[ops.size-(fuel+1)]? =o_ oi:=by rfl)(_hd:oi.dst=o_ d:=by rfl)(hc:Jj md ops RV (ops.size-(fuel+1)) oi (o_ d)=true:=by kernel_rfl)
  (hQ:∀c a w,Q (.panic c) (a.put (o_ d) undef) w->Q (.panic c) a w:=by exactλ_ _ _ h=>h)(hw:Region.wanted oi (yielded ops a.tmps)=false:=by kernel_rfl):gR P md ops Q S (fuel+1) RV a:=tm (ops.size-(fuel+1)) (o_ d) hi hc hQ (np hw) h
def cl (v:v_)(f:FuncId)(args:Array v_){oi:Oper}{fuel:Nat}{RV:Array Bool}{a:Act}{d:Tmp}(hy:∀w,S w->(execOp a.eval oi).run P w=.ok (.enter f args) w)(hf:∀w,S w->k_ P f args w (λe w'=>e=r_ v/\S w'))
  (h:gR P md ops Q S fuel (RV.setIfInBounds (ops.size-(fuel+1)) true) (a.put (o_ d) v))(hi:ops[ops.size-(fuel+1)]? =o_ oi:=by rfl)(_hd:oi.dst=o_ d:=by rfl)(hc:Jj md ops RV (ops.size-(fuel+1)) oi (o_ d)=true:=by kernel_rfl)
  (hQ:∀c a w,Q (.panic c) (a.put (o_ d) v) w->Q (.panic c) a w:=by exactλ_ _ _ h=>h)(hw:Region.wanted oi (yielded ops a.tmps)=true:=by kernel_rfl):gR P md ops Q S (fuel+1) RV a:=tm (ops.size-(fuel+1)) (o_ d) hi hc hQ (iZ hw hy hf) h
def clk {v:v_}{f:FuncId}{args:Array v_}{oi:Oper}{fuel:Nat}{RV:Array Bool}{a a':Act}{d:Tmp}(hf:∀w,S w->k_ P f args w (λe w'=>e=r_ v/\S w'))(h:gR P md ops Q S fuel (RV.setIfInBounds (ops.size-(fuel+1)) true) a')
  (hi:ops[ops.size-(fuel+1)]? =o_ oi:=by rfl)(_hd:oi.dst=o_ d:=by rfl)(hy:∀w,S w->(execOp a.eval oi).run P w=.ok (.enter f args) w:=by intro w0 hS0;(first|subst hS0|obtain⟨⟨q0,q1,q2,q3,q4,q5,q6,q7,q8,q9,kY,kV,lB,lz,Ch⟩,hH⟩:=hS0|obtain⟨⟨q0,q1,q2,q3,q4,q5,q6,q7⟩,hH⟩:=hS0|obtain⟨⟨q0,q1,q2,q3,q4,q5⟩,hH⟩:=hS0|obtain⟨⟨q0,q1,q2,q3,q4⟩,hH⟩:=hS0);go_simp;try with_reducible rfl)(hc:Jj md ops RV (ops.size-(fuel+1)) oi (o_ d)=true:=by kernel_rfl)
  (hQ:∀c a w,Q (.panic c) (a.put (o_ d) v) w->Q (.panic c) a w:=by exactλ_ _ _ h=>h)(hw:Region.wanted oi (yielded ops a.tmps)=true:=by kernel_rfl)(ha:a.put (o_ d) v=a':=by simp only[pt,sb,s0,s1];rfl):gR P md ops Q S (fuel+1) RV a:=tm (ops.size-(fuel+1)) (o_ d) hi hc hQ (iZ hw hy hf) Zdg
end
end Go.Proofs.YtckenjkcmajicaaGreat

namespace Go.Proofs.YtckenjkcmajicaaGreat
open Go
section
variable {P:Program}{ops:Array Oper}{Q:Exit->Act->w_->Prop}{md:Region.Mode}{S:w_->Prop}
def zK (l:Array Bool):Nat:=l.toList.count false
def cX {l:Array Bool}{i:Nat}(h:i∈Region.ready md ops l):l[i]? =o_ false:=by
 simp only[Region.ready,L2,J7,PR]at h;have h1:=h.2.1;rw[adY]at h1;cases h2:l[i]?with
 |none=>rw[h2]at h1;simp at h1
 |some b=>rw[h2]at h1;simp at h1;rw[h1]
def D8 (md:Region.Mode)(ops:Array Oper)(i:Nat):List Nat:=((ops[i]?).map λo=>(o.after.toList.filter λe=>Region.binds md e).map λe=>e.on).getD []
def hF {l:Array Bool}{i:Nat}(ns:List Nat)(h:i∈Region.ready md ops l)(hn:D8 md ops i=ns):∀j∈ns,l[j]? =o_ true:=λj hj=>by
 simp only[Region.ready,L2,J7]at h;have h1:=h.2.2;subst hn;unfold D8 at hj;cases ho:ops[i]?with
 |none=>rw[ho]at hj;simp at hj
 |some o=>
  rw[ho]at hj h1;simp only[J9,Ka,Lr,L2]at hj h1;obtain⟨e,⟨he,hb⟩,rfl⟩:=hj;rw[aeb]at h1;have h2:=h1 e (by simpa using he);simp only[hb,Bool.not_true,Qg,adY]at h2;cases h3:l[e.on]?with
  |none=>rw[h3]at h2;simp at h2
  |some b=>rw[h3]at h2;simp at h2;rw[h2]
def jW {l:Array Bool}{i:Nat}(ns:List Nat)(hi:decide (i<ops.size)=true)(hn:D8 md ops i=ns)(hf:l[i]? =o_ false)(hd:∀j∈ns,l[j]? =o_ true):i∈Region.ready md ops l:=by
 have hi':=of_decide_eq_true hi;simp only[Region.ready,L2,List.mem_range,J7,PR,adY,hf,Ka,true_and];refine⟨hi',?_⟩;subst hn;rw[Qb hi']at*;simp only[D8,Qb hi',J9,Ka]at hd⊢;rw[aeb];intro e he;cases hb:Region.binds md e with
 |false=>simp
 |true=>
  have:=hd e.on (Lr.2 ⟨e,L2.2 ⟨by simpa using he,hb⟩,rfl⟩)
  simp[this]
def count_set:∀{q:List Bool}{i:Nat},q[i]? =o_ false->(q.set i true).count false+1=q.count false
 |[],_,h=>Zd2
 |b::r,0,h=>by
  simp only[List.getElem?_cons_zero,LF]at h;subst h;simp
 |b::r,i+1,h=>by
  simp only[List.getElem?_cons_succ]at h
  have:=count_set h
  simp only[List.set_cons_succ,List.count_cons];omega
def vr {l:Array Bool}{i:Nat}(h:l[i]? =o_ false):zK (l.setIfInBounds i true)+1=zK l:=by
 unfold zK;rw[Array.toList_setIfInBounds];exact count_set (by rw[QJ];exact h)
def tk (i:Nat){oi:Oper}{v:v_}{fuel:Nat}{RV:Array Bool}{a:Act}{w:w_}{d:Tmp}(hy:∀w,S w->(execOp a.eval oi).run P w=.ok (.value v) w)(hS:S w)
  (h:wpAnyH P md ops Q S fuel (RV.setIfInBounds i true) (a.put (o_ d) v) w)(hi:ops[i]? =o_ oi:=by rfl)(hd:oi.dst=o_ d:=by rfl)(h1:Region.noSelect ops=true:=by kernel_rfl)(h2:Region.free md ops RV i=true:=by kernel_rfl)(h3:(Region.ready md ops RV).contains i=true:=by kernel_rfl)
  (hQ:∀c a w,Q (.panic c) (a.put (o_ d) v) w->Q (.panic c) a w:=by exactλ_ _ _ h=>h)(hw:Region.wanted oi (yielded ops a.tmps)=true:=by kernel_rfl):wpAnyH P md ops Q S (fuel+1) RV a w:=by
 rw[<-hd]at h hQ;exact wpAnyH_take (i:=i) hi h1 h2 h3 hQ (.inl ⟨hw,hy⟩) hS h
def tt (i:Nat){oi:Oper}{v:v_}{fuel:Nat}{RV:Array Bool}{a a':Act}{w:w_}{d:Tmp}(hS:S w)(h:wpAnyH P md ops Q S fuel (RV.setIfInBounds i true) a' w)(hi:ops[i]? =o_ oi:=by rfl)(hd:oi.dst=o_ d:=by rfl)
  (hy:∀w,S w->(execOp a.eval oi).run P w=.ok (.value v) w:=by intro w0 hS0;go_simp;try with_reducible rfl)(h1:Region.noSelect ops=true:=by kernel_rfl)(h2:Region.free md ops RV i=true:=by kernel_rfl)(h3:(Region.ready md ops RV).contains i=true:=by kernel_rfl)
  (hQ:∀c a w,Q (.panic c) (a.put (o_ d) v) w->Q (.panic c) a w:=by exactλ_ _ _ h=>h)(hw:Region.wanted oi (yielded ops a.tmps)=true:=by kernel_rfl)(ha:a.put (o_ d) v=a':=by simp only[pt,sb,s0,s1];rfl):wpAnyH P md ops Q S (fuel+1) RV a w:=
 tk i hy hS Zdg hi hd h1 h2 h3 hQ hw
def cellAt {w:w_}{X i:Nat}{cs:Array v_}{T:T_}{v:v_}(h:w.heap[X]? =o_ (c_ cs T))(hv:cs[i]? =o_ v):w.cell? ⟨X,i,n_⟩=o_ v:=by simp[World.cell?,h,hv]
def agi (i:Nat){oi:Oper}{v:v_}{fuel:Nat}{RV:Array Bool}{a a':Act}{w:w_}{d:Tmp}(hS:S w)(h:wpAnyH P md ops Q S fuel (RV.setIfInBounds i true) a' w)(hi:ops[i]? =o_ oi:=by rfl)(hd:oi.dst=o_ d:=by rfl)
  (hy:∀w,S w->(execOp a.eval oi).run P w=.ok (.value v) w:=by intro w0 hS0;(first|(have q0:=hS0.1.cells.2.2.2.2.2.2.2;rw[HG.I]at q0)|(have q0:=hS0.1.cells.2.2.2.2.2.2.1;rw[HG.I]at q0));(try(have q5:=hS0.1.cells.2.2.1;rw[ud.I]at q5;have q7:=hS0.2));(try have q3:=hS0.2.1.cells.2.2.2);(first|have q4:=cellAt (i:=4) hS0.2.2 rfl|have q4:=cellAt (i:=2) hS0.2.2 rfl|have q4:=cellAt (i:=4) hS0.2 rfl|have q4:=cellAt (i:=2) hS0.2 rfl|skip);(try simp only at q3);go_simp;try with_reducible rfl)(h1:Region.noSelect ops=true:=by kernel_rfl)(h2:Region.free md ops RV i=true:=by kernel_rfl)(h3:(Region.ready md ops RV).contains i=true:=by kernel_rfl)
  (hQ:∀c a w,Q (.panic c) (a.put (o_ d) v) w->Q (.panic c) a w:=by exactλ_ _ _ h=>h)(hw:Region.wanted oi (yielded ops a.tmps)=true:=by kernel_rfl)(ha:a.put (o_ d) v=a':=by simp only[pt,sb,s0,s1];rfl):wpAnyH P md ops Q S (fuel+1) RV a w:=
 tk i hy hS Zdg hi hd h1 h2 h3 hQ hw
def L7 (i:Nat){o:Oper}{fuel:Nat}{RV:Array Bool}{a:Act}{w:w_}(h:∀K':Act->w_->Prop,Shut (∀a w,S w->(S w->wpAnyH P md ops Q S fuel (RV.setIfInBounds i true) a w)->K' a w)->Oper.wp P o a w K' Q)
  (hr:Region.ready md ops RV=[i]:=by kernel_rfl)(ho:ops.toList[i]? =o_ o:=by rfl)(hw:Region.wanted o (yielded ops a.tmps)=true:=by kernel_rfl):wpAnyH P md ops Q S (fuel+1) RV a w:=
 KW hr zy (KX (by rw[<-ho];simp) (λK' hK=>by rw[if_pos hw];exact h K' hK) KY)
def ln {i:Nat}{o:Oper}{K:Act->w_->Prop}{a:Act}{w:w_}(ho:ops[i]? =o_ o)(hw:Region.wanted o (yielded ops a.tmps)=true)
  (h:∀K':Act->w_->Prop,Shut (∀a w,K a w->K' a w)->Oper.wp P o a w K' Q):wpOp P ops Q i K a w:=
 wpOp_step ho λK' hK=>by
  rw[if_pos hw];exact h K' hK
def wild (Inv:Array Bool->Act->w_->Prop)(hS:∀l a w,Inv l a w->S w)(hstep:∀l a w,Inv l a w->∀i∈Region.ready md ops l,wpOp P ops Q i (Inv (l.setIfInBounds i true)) a w)
  (hend:∀l a w,Inv l a w->Region.ready md ops l=[]->Q .normal a w):∀(fuel:Nat)(l:Array Bool)(a:Act)(w:w_),Inv l a w->zK l<=fuel->wpAnyH P md ops Q S fuel l a w
 |0,l,a,w,h,hu=>by
  have h0:Region.ready md ops l=[]:=List.eq_nil_iff_forall_not_mem.2 λi hi=>by
   have:=vr (cX hi)
   omega
  exact⟨h0,hend _ _ _ h h0⟩
 |fuel+1,l,a,w,h,hu=>⟨λh0=>hend _ _ _ h h0,λi hi=>Qd (λa' w' h'=>⟨hS _ _ _ h',wild Inv hS hstep hend fuel _ a' w' h' (by have:=vr (cX hi);omega)⟩) (hstep _ _ _ h i hi)⟩
end
end Go.Proofs.YtckenjkcmajicaaGreat
