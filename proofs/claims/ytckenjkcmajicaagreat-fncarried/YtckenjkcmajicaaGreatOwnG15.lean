/- What the proof leans on, part 15. -/
import Derived.Test.YtckenjkcmajicaaGreatOwnG5
import Derived.Test.YtckenjkcmajicaaGreatOwnG11
import Derived.Test.YtckenjkcmajicaaGreatOwnG13
set_option linter.all false
set_option maxRecDepth 100000
set_option maxHeartbeats 8000000
open Go.Proofs.Tryz
open Go renaming World->w_,Calls->k_,Addr->d_,below_setRow->q_
open Go.Ending renaming returned->r_
open Go.IntKind renaming i64->j_
open Go.Obj renaming cells->c_
open Go.RowKit renaming Below->B_,Hid->da
open Go.Value renaming int->i_,slice->s_,string->t_,agg->a_,pointer->p_
open Option renaming some->o_,none->n_
open Function renaming comp_def->Ls
open Go.Proofs.Tryz renaming prog->J3
open List renaming find?_cons->LL,length_cons->Lg,length_nil->K4

namespace Go.Proofs.YtckenjkcmajicaaGreat
section
open Go.RowKit Go.Maps
attribute [local go_sem ↓] Go.wp_at_zero Go.wp_at_succ
def j7 (y:aD):aD:=⟨y.id,y.RX,y.prog,0,0,0,0,0,rM,y.got,y.code,0⟩
def sW (y:ao):ao:=⟨j7 y.toaD,y.aY,y.bH⟩
def mN (x:ao)(w:w_):k_ J3 189 #[a_ x.row] w λe w'=>e=r_ (a_ #[i_ j_ x.id,i_ j_ x.RX,s_ x.aY x.prog.length x.bH,i_ j_ 0,i_ j_ 0,i_ j_ 0,i_ j_ 0,i_ j_ 0,t_ ⟨#[]⟩,t_ x.got,i_ j_ x.code,i_ j_ 0])/\B_ w.heap.size w w':=by
 have HB:da (B_ w.heap.size w ((w.alloc (c_ x.row 125)).alloc (c_ cE 125))/\((w.alloc (c_ x.row 125)).alloc (c_ cE 125)).heap[w.heap.size+1]? =o_ (c_ cE 125)):=⟨((Kp _ _).alloc (Ki _) _).alloc zy _,Kq _ _ _⟩
 go_enter func189,ntmps189
 go_wp2_with(refine wpList_store_row rfl 125 (Operand.tmp 2) (Operand.tmp 13) rfl (w.heap.size+1) _ _ #[i_ j_ x.id,i_ j_ x.RX,s_ x.aY x.prog.length x.bH,i_ j_ 0,i_ j_ 0,i_ j_ 0,i_ j_ 0,i_ j_ 0,t_ ⟨#[]⟩,t_ x.got,i_ j_ x.code,i_ j_ 0] rfl rfl HB.I.2 ZbG rfl ZbG ?_);refine KT (v:=a_ #[i_ j_ x.id,i_ j_ x.RX,s_ x.aY x.prog.length x.bH,i_ j_ 0,i_ j_ 0,i_ j_ 0,i_ j_ 0,i_ j_ 0,t_ ⟨#[]⟩,t_ x.got,i_ j_ x.code,i_ j_ 0]) (K9 results189 _ _ (w.heap.size+1) _ _ (0,0) _ rfl (KU _ _ _ _ _ _ HB.I.2) underlying125 rfl ZbG) rfl ?_;exact⟨rfl,q_ HB.I.1 zw _⟩
def Ba (O gs n:Nat)(q:af)(x:ao)(w':w_):Prop:=w'.cell? ⟨O,2,n_⟩=o_ (s_ (o_ ⟨gs,0,n_⟩) q.L8.length q.aW)/\w'.cell? ⟨gs,n*12,n_⟩=o_ (i_ j_ x.id)/\w'.cell? ⟨gs,n*12+1,n_⟩=o_ (i_ j_ x.RX)/\w'.cell? ⟨gs,n*12+2,n_⟩=o_ (s_ x.aY x.prog.length x.bH)/\w'.cell? ⟨gs,n*12+3,n_⟩=o_ (i_ j_ x.Md)/\w'.cell? ⟨gs,n*12+4,n_⟩=o_ (i_ j_ x.pc)/\w'.cell? ⟨gs,n*12+5,n_⟩=o_ (i_ j_ x.left)/\w'.cell? ⟨gs,n*12+6,n_⟩=o_ (i_ j_ x.Mg)/\w'.cell? ⟨gs,n*12+7,n_⟩=o_ (i_ j_ x.on)/\w'.cell? ⟨gs,n*12+8,n_⟩=o_ (t_ x.held)/\w'.cell? ⟨gs,n*12+9,n_⟩=o_ (t_ x.got)/\w'.cell? ⟨gs,n*12+10,n_⟩=o_ (i_ j_ x.code)/\w'.cell? ⟨gs,n*12+11,n_⟩=o_ (i_ j_ x.RU)
end
section
variable {α:Type}(afM:α->α->Bool)
def qV (r:Option α)(x:α):Option α:=match r with
 |none=>o_ x
 |some b=>if afM x b then o_ x else o_ b
def oa (l:List α):Option α:=l.foldl (qV afM) n_
def qy (l:List α)(x:α):oa afM (l++[x])=qV afM (oa afM l) x:=by simp[oa]
def EO {r:Option α}{x y:α}(h:qV afM r x=o_ y):y=x\/r=o_ y:=by
 unfold qV at h
 exact Za4
def zZ:∀(l:List α)(r:Option α){y:α},l.foldl (qV afM) r=o_ y->y∈l\/r=o_ y
 |[],_,_,h=>.inr h
 |x::l,r,y,h=>by
  rcases zZ l (qV afM r x) h with h1|h1
  .exact .inl Zea
  .rcases EO afM h1 with h2|h2
   .exact .inl (by simp[h2])
   .exact .inr h2
def Fg {l:List α}{y:α}(h:oa afM l=o_ y):y∈l:=(zZ afM l n_ h).elim id (λe=>Zdk)
def C8 (r:Option α)(x:α):∃y,qV afM r x=o_ y:=by
 unfold qV
 split
 .exact ⟨_,rfl⟩
 .split<;>exact⟨_,rfl⟩
def CZ {l:List α}(h:oa afM l=n_):l=[]:=by
 rcases List.eq_nil_or_concat l with e|⟨l',x,e⟩
 .exact e
 .subst e
  rw[List.concat_eq_append,qy]at h;obtain⟨y,hy⟩:=C8 afM (oa afM l') x;rw[hy]at h;cases h
def eN (f:α->Bool)(l:List α)(k:Nat)(i:Int):Prop:=match oa afM ((l.take k).filter f)with
 |none=>i= -1
 |some x=>∃n:Nat,i=n/\n<k/\l[n]? =o_ x
variable {f:α->Bool}{l:List α}{k:Nat}{i:Int}{x:α}
def eN.start (f:α->Bool)(l:List α):eN afM f l 0 (-1):=by simp[eN,oa]
def qm (hx:l[k]? =o_ x):(l.take (k+1)).filter f=(l.take k).filter f++(if f x then[x]else[]):=by
 have h:l.take (k+1)=l.take k++[x]:=by rw[List.take_add_one,hx];rfl
 rw[h,QN];by_cases h:f x=true<;>simp[h]
variable {afM}
def eN.skip (h:eN afM f l k i)(hx:l[k]? =o_ x)(hf:f x=false):eN afM f l (k+1) i:=by
 unfold eN at h⊢;rw[qm hx,hf];exact ZaQ
def eN.first (h:eN afM f l k i)(hi:i<0)(hx:l[k]? =o_ x)(hf:f x=true):eN afM f l (k+1) k:=by
 unfold eN at h⊢;rw[qm hx,hf];simp only[if_true];rw[qy]
 exact Za2
def eN.got (h:eN afM f l k i)(hi:¬i<0):∃(n:Nat)(y:α),i=n/\n<k/\l[n]? =o_ y/\oa afM ((l.take k).filter f)=o_ y:=by
 unfold eN at h
 exact Za5
def eN.none' (h:eN afM f l k i)(hi:i<0):oa afM ((l.take k).filter f)=n_:=by
 unfold eN at h
 split at h
 .assumption
 .obtain ⟨n,h1,_⟩:=h
  omega
def eN.next {n:Nat}{y:α}(hn:n<k)(hy:l[n]? =o_ y)(he:oa afM ((l.take k).filter f)=o_ y)(hx:l[k]? =o_ x)(hf:f x=true):eN afM f l (k+1) (if afM x y then(k:Int)else(n:Int)):=by
 unfold eN;rw[qm hx,hf];simp only[if_true];rw[qy,he];simp only[qV];by_cases ha:afM x y=true
 .simp only[ha,if_true]
  exact⟨k,rfl,zw,hx⟩
 .simp only[ha,J5,if_false]
  exact⟨n,rfl,zw,hy⟩
end
def og (bE:Int)(x:aD):Bool:=decide (2<=x.Md)&&cv x.Mg 1 bE
def l8 (a b:aD):Bool:=decide (a.Mg<b.Mg)
def lF (bE:Int)(l:List aD):List aD:=l.filter (og bE)
def lZ (bE:Int)(l:List aD):Option aD:=oa l8 (lF bE l)
def jM (code:Int)(x:aD):aD:={x with code:=code,Md:=1,pc:=x.pc+1,left:=0,Mg:=0,on:=0,held:=rM}
def jT (code:Int)(x:aD):aD:=if x.pc+1=x.prog.length then j7 (jM code x)else jM code x
def iY (nx code:Int)(x:aD):aD:=if x.pc+1=x.prog.length then j7 (jM code x)else{jM code x with RU:=nx}
def gf (nx:Int)(x:aD):Int:=if x.pc+1=x.prog.length then nx else nx+1
def mL (x:aD):Int:=if x.Md=2 then 0 else 2
def gu (p:aE)(x:aD):aE:={p with next:=gf p.next x,L8:=ce x.id (iY p.next (mL x)) p.L8}
def oO (bE:Int):Nat->aE->aE
 |0,p=>p
 |n+1,p=>match lZ bE p.L8 with
  |none=>p
  |some x=>oO bE n (gu p x)
def gj (bE:Int)(p:aE):aE:=oO bE (lF bE p.L8).length p
def rD (nx code:Int)(x:aD):(iY nx code x).id=x.id/\(iY nx code x).prog=x.prog:=by
 unfold iY
 split<;>exact⟨rfl,rfl⟩
def E7 (bE nx code:Int)(x:aD):og bE (iY nx code x)=false:=by
 unfold iY og
 split<;>simp[j7,jM]
def qB {f:aD->aD}{id:Int}:∀{l:List aD},(∀y∈l,y.id≠id)->ce id f l=l
 |[],_=>rfl
 |y::r,h=>by
  have h1:ce id f r=r:=qB λz hz=>h z (LB _ hz)
  simp only[ce,Lt]at h1⊢;rw[if_neg (h y zy),h1]
def Bg {bE:Int}{f:aD->aD}{x:aD}(hf:og bE (f x)=false)(hx:og bE x=true):∀{l:List aD},l.Pairwise (λx y=>x.id<y.id)->x∈l->(lF bE (ce x.id f l)).length+1=(lF bE l).length
 |[],_,h=>ZcF
 |y::r,hr,h=>by
  rw[LM]at hr;by_cases e:y=x
  .subst e
   have h2:ce y.id f (y::r)=f y::r:=by
    exact ZaV
   rw[h2];simp[lF,hf,hx]
  .have hm:x∈r:=by
    rcases Kt.1 h with h1|h1
    .exact absurd h1.symm e
    .exact h1
   have h4:=Bg hf hx hr.2 hm;have h5:¬y.id=x.id:=by have:=hr.1 x hm;omega
   have h6:ce x.id f (y::r)=y::ce x.id f r:=by simp[ce,h5]
   rw[h6];unfold lF at h4⊢;by_cases hy:og bE y=true
   .simp only[LN,hy,if_true,Lg];omega
   .simp only[LN,hy,J5,if_false];exact h4
def rW {f:aD->aD}{id:Int}(hf:∀x,(f x).id=x.id){l:List aD}(h:l.Pairwise (λx y=>x.id<y.id)):(ce id f l).Pairwise (λx y=>x.id<y.id):=by
 unfold ce;rw[Qm];refine h.imp λ{a b} hab=>?_
 have e:∀z:aD,(if z.id=id then f z else z).id=z.id:=λz=>by split<;>simp[hf]
 rw[e,e];exact hab
def Gs {f:aD->aD}{id:Int}{l:List aD}{y:aD}(h:y∈ce id f l):y∈l\/ ∃x∈l,y=f x:=by
 obtain⟨z,hz,e⟩:=Lr.1 h;by_cases h1:z.id=id
 .exact .inr ⟨z,hz,by rw[<-e,if_pos h1]⟩
 .exact .inl (by rw[if_neg h1]at e;exact e▸hz)
structure af9 (bE:Int)(p:aE):Prop where
 kW:p.L8.Pairwise (λx y=>x.id<y.id)
 op:∀x∈p.L8,2<=x.Md->0<=x.pc/\x.pc<x.prog.length
 room:1<=p.next/\p.next+(lF bE p.L8).length<=1000000000
 low:p.L8.length<=6
def af9.mem {bE:Int}{p:aE}{x:aD}(h:lZ bE p.L8=o_ x):x∈p.L8/\og bE x=true:=by
 have h1:=Fg l8 h;exact L2.1 h1
def af9.step {bE:Int}{p:aE}{x:aD}(h:af9 bE p)(hx:lZ bE p.L8=o_ x):af9 bE (gu p x)/\(lF bE (gu p x).L8).length+1=(lF bE p.L8).length:=by
 obtain⟨hm,hd⟩:=af9.mem hx;have h1:=Bg (E7 bE p.next (mL x) x) hd h.kW hm;refine⟨⟨rW (λy=>(rD _ _ y).1) h.kW,λy hy hs=>?_,?_,?_⟩,h1⟩
 .rcases Gs hy with h2|⟨z,_,rfl⟩
  .exact h.op y h2 hs
  .unfold iY at hs
   split at hs<;>simp[j7,jM]at hs
 .have h2:=h.room
  have h3:(gu p x).next<=p.next+1/\p.next<=(gu p x).next:=by
   show gf p.next x<=_/\_<=gf p.next x
   unfold gf
   split<;>omega
  have h4:(lF bE (gu p x).L8).length+1=(lF bE p.L8).length:=h1;omega
 .show (ce _ _ p.L8).length<=6
  simpa[ce]using h.low
def Co {bE:Int}{p:aE}(h:lZ bE p.L8=n_):gj bE p=p:=by
 unfold gj;rw[CZ l8 h];rfl
def vn {bE:Int}{p:aE}{x:aD}(h:af9 bE p)(hx:lZ bE p.L8=o_ x):gj bE p=gj bE (gu p x):=by
 have h1:=(h.step hx).2;unfold gj;rw[<-h1];simp only[oO,hx]
def af9.of {bE:Int}{p:aE}(h:aQ p)(hn:p.next<=999999980):af9 bE p:=by
 have h1:=(db h.L8).2;refine⟨h1,λx hx hs=>?_,?_,h.dl⟩
 .have h2:=(cK h.L8 x hx).2
  simp only[cH,J7]at h2;have h3:=h2.1.1.2;unfold bO at h3;have h4:dU x=true:=by
   split at h3
   .omega
   .split at h3
    .omega
    .exact Zah
  have h5:=bz.1 h4;omega
 .have h2:=bz.1 h.next
  have h3:(lF bE p.L8).length<=p.L8.length:=Qq _ _;have h4:=h.dl;omega
def jP {α:Type}(num:α->Int)(id:Int)(f:α->α)(l:List α):List α:=l.map λx=>if num x=id then f x else x
def cg {α:Type}(num:α->Int)(id:Int)(l:List α):Option α:=l.find? λx=>decide (num x=id)
def ie (st on:Int)(x:aD):Bool:=decide (x.Md=st)&&decide (x.on=on)
def jl (st on:Int)(l:List aD):Option aD:=jo (l.filter (ie st on))
def bu (code id:Int)(p:aE):aE:={p with L8:=ce id (jT code) p.L8}
def lG (t:ByteArray)(x:aD):aD:={x with got:=t}
def ez (t:ByteArray)(id:Int)(p:aE):aE:={p with L8:=ce id (lG t) p.L8}
def gF (f:aD->aD)(p:aE)(x:aD):aE:={p with next:=gf p.next x,L8:=ce x.id (λy=>iY p.next 0 (f y)) p.L8}
def gW (f:aD->aD)(st on:Int):Nat->aE->aE
 |0,p=>p
 |n+1,p=>match jl st on p.L8 with
  |none=>p
  |some x=>gW f st on n (gF f p x)
def ff (f:aD->aD)(st on:Int)(p:aE):aE:=gW f st on (p.L8.filter (ie st on)).length p
def zb (nx st on:Int)(held:ByteArray)(Mg:Int)(y:aD):aD:={y with Md:=st,Mg:=Mg,on:=on,held:=held,RU:=nx}
def kC (st on:Int)(held:ByteArray)(Mg id:Int)(p:aE):aE:={p with next:=p.next+1,L8:=ce id (zb p.next st on held Mg) p.L8}
def kZ (bE m:Int):Int:=if 0<=m then bE+m else-1
def mX (st:Int)(o:dN)(bE id:Int)(p:aE):aE:=if o.2.2.1=0 then bu 1 id p else kC st o.2.1 o.2.2.2 (kZ bE o.2.2.1) id p
def nZ (id d:Int)(p:aE):aE:={p with aj:=jP (·.id) id (λy=>{y with n:=y.n+d}) p.aj}
def gL (id:Int)(b:Bool)(p:aE):aE:={p with L9:=jP (·.id) id (λy=>{y with up:=b}) p.L9}
def ib (id:Int)(b:Bool)(t:ByteArray)(p:aE):aE:={p with ag:=jP (·.id) id (λy=>{y with shown:=b,text:=t}) p.ag}
def cV (id:Int)(l:List ByteArray)(p:aE):aE:={p with ae:=jP (·.id) id (λy=>{y with Ma:=l}) p.ae}
def gU (id:Int)(l:List ByteArray)(p:aE):aE:={p with ai:=jP (·.id) id (λy=>{y with Ma:=l}) p.ai}
def mh (o:dN)(bE id:Int)(p:aE):aE:=match cg (·.id) o.2.1 p.aj with
 |none=>bu 3 id p
 |some s=>if s.n=0 then mX 3 o bE id p else bu 0 id (nZ o.2.1 (-1) p)
def gJ (o:dN)(id:Int)(p:aE):aE:=match cg (·.id) o.2.1 p.aj with
 |none=>bu 3 id p
 |some s=>match jl 3 o.2.1 p.L8 with
  |some y=>bu 0 id (gF (λy=>y) p y)
  |none=>if s.n=s.max then bu 1 id p else bu 0 id (nZ o.2.1 1 p)
def dE (o:dN)(bE id:Int)(p:aE):aE:=match cg (·.id) o.2.1 p.L9 with
 |none=>bu 3 id p
 |some e=>if o.1=5 then bu 0 id (ff (λy=>y) 4 o.2.1 (gL o.2.1 true p))
  else if o.1=6 then bu 0 id (gL o.2.1 false p)
  else if e.up then bu 0 id p else mX 4 o bE id p
def lc (o:dN)(bE id:Int)(p:aE):aE:=match cg (·.id) o.2.1 p.ae with
 |none=>bu 3 id p
 |some b=>match jl 6 o.2.1 p.L8 with
  |some y=>bu 0 id (gF (lG o.2.2.2) p y)
  |none=>if(b.Ma.length:Int)=b.max then mX 5 o bE id p else bu 0 id (cV o.2.1 (b.Ma++[o.2.2.2]) p)
def ka (o:dN)(bE id:Int)(p:aE):aE:=match cg (·.id) o.2.1 p.ae with
 |none=>bu 3 id p
 |some b=>match b.Ma with
  |[]=>mX 6 o bE id (ez rM id p)
  |t::r=>match jl 5 o.2.1 (ez t id p).L8 with
   |none=>bu 0 id (cV o.2.1 r (ez t id p))
   |some y=>bu 0 id (gF (λy=>y) (cV o.2.1 (r++[y.held]) (ez t id p)) y)
def dC (o:dN)(bE id:Int)(p:aE):aE:=match cg (·.id) o.2.1 p.ag with
 |none=>bu 3 id p
 |some b=>if o.1=10 then bu 0 id (ff (lG o.2.2.2) 7 o.2.1 (ib o.2.1 true o.2.2.2 p))
  else if o.1=11 then bu 0 id (ib o.2.1 false rM p)
  else if b.shown then bu 0 id (ez b.text id p)else mX 7 o bE id (ez b.text id p)
def ig (o:dN)(id:Int)(p:aE):aE:=match cg (·.id) o.2.1 p.ai with
 |none=>bu 3 id p
 |some q=>if q.I=false then bu 3 id p
  else if q.Mf=false then bu 0 id (gU o.2.1 [o.2.2.2] p)
  else if(q.Ma.length:Int)=q.max then bu 1 id p
  else bu 0 id (gU o.2.1 (q.Ma++[o.2.2.2]) p)
def gC (o:dN)(id:Int)(p:aE):aE:=match cg (·.id) o.2.1 p.ai with
 |none=>bu 3 id p
 |some q=>if q.I then bu 3 id p else match q.Ma with
  |[]=>bu 1 id (ez rM id p)
  |t::r=>bu 0 id (if q.Mf then gU o.2.1 r (ez t id p)else ez t id p)
def py (id:Int)(p:aE):aE:={p with next:=p.next+1,L8:=ce id (λy=>{y with Md:=1,RU:=p.next}) p.L8}
def ot (id:Int)(p:aE):aE:={p with L8:=ce id j7 p.L8}
def jU (o:dN)(id:Int)(p:aE):aE:=match cg (·.id) o.2.1 p.L8 with
 |none=>bu 3 id p
 |some y=>if y.Md=0 then bu 0 id (py o.2.1 p)else bu 1 id p
def lg (o:dN)(id:Int)(p:aE):aE:=match cg (·.id) o.2.1 p.L8 with
 |none=>bu 3 id p
 |some y=>if y.Md=0 then bu 1 id p else if o.2.1=id then ot id p else bu 0 id (ot o.2.1 p)
def GY (x:aD)(o:dN)(p:aE):aE:=
 if(if x.left=0 then o.2.1 else x.left)=1 then bu 0 x.id p
 else{p with L8:=ce x.id (λy=>{y with left:=(if x.left=0 then o.2.1 else x.left)-1}) p.L8}
def lX (bE:Int)(x:aD)(o:dN)(p:aE):aE:=
 if o.1=1 then GY x o p
 else if o.1=2 then kC 2 0 rM (bE+o.2.1) x.id p
 else if o.1=3 then mh o bE x.id p
 else if o.1=4 then gJ o x.id p
 else if o.1=5\/o.1=6\/o.1=7 then dE o bE x.id p
 else if o.1=8 then lc o bE x.id p
 else if o.1=9 then ka o bE x.id p
 else if o.1=10\/o.1=11\/o.1=12 then dC o bE x.id p
 else if o.1=13 then ig o x.id p
 else if o.1=14 then gC o x.id p
 else if o.1=15 then jU o x.id p
 else if o.1=16 then lg o x.id p
 else{p with L8:=ce x.id (λy=>{y with pc:=0}) p.L8}
def mS (bE:Int)(p:aE):aE:=match jl 1 0 (gj bE p).L8 with
 |none=>gj bE p
 |some x=>lX bE x (opAt x) (gj bE p)
section
variable {α:Type}{num:α->Int}
def jF {l:List α}{f:α->α}{id:Int}{n:Nat}{y:α}(hr:l.Pairwise (λx y=>num x<num y))(hn:l[n]? =o_ y)(hy:num y=id):jP num id f l=l.set n (f y):=by
 induction l generalizing n with
 |nil=>simp at hn
 |cons x r ih=>
  obtain⟨h1,h2⟩:=LM.1 hr;cases n with
  |zero=>
   simp only[List.getElem?_cons_zero,LF]at hn;subst hn;have e:jP num id f r=r:=by
    unfold jP
    conv=>rhs;rw[<-List.map_id r]
    refine Lw λz hz=>?_
    rw[if_neg (by have:=h1 z hz;omega)];rfl
   simp only[List.set_cons_zero]
   show(if num x=id then f x else x)::jP num id f r=_
   rw[if_pos hy,e]
  |succ n=>
   simp only[List.getElem?_cons_succ]at hn;have hlt:=h1 y (KA hn);simp only[List.set_cons_succ]
   show(if num x=id then f x else x)::jP num id f r=_
   rw[if_neg zw,ih h2 hn]
def ef (id:Int):∀(l:List α)(k:Nat),(place (l.map num) id k= -1/\cg num id l=n_)\/ ∃n x,place (l.map num) id k=((k+n:Nat):Int)/\l[n]? =o_ x/\num x=id/\cg num id l=o_ x
 |[],k=>.inl ⟨rfl,rfl⟩
 |x::r,k=>by
  unfold cg;by_cases h:num x=id
  .refine .inr ⟨0,x,?_,rfl,h,by simp[h]⟩
   simp[place,h]
  .rcases ef id r (k+1)with⟨h1,h2⟩|⟨n,y,h1,h2,h4,h3⟩
   .exact ZaU
   .refine .inr ⟨n+1,y,?_,h2,h4,ZfA⟩
    simp only[Lt,place];rw[if_neg h,h1];omega
def ks {id:Int}{l:List α}{x:α}(h:cg num id l=o_ x):x∈l/\num x=id:=by
 have h1:=List.find?_some h;exact⟨List.mem_of_find?_eq_some h,Zfh⟩
end
def xw:∀(l:List aD)(r:Option aD){y:aD},l.foldl iy r=o_ y->y∈l\/r=o_ y
 |[],_,_,h=>.inr h
 |x::l,r,y,h=>by
  rcases xw l (iy r x) h with h1|h1
  .exact .inl Zea
  .rcases zp h1 with h2|h2
   .exact .inl (by simp[h2])
   .exact .inr h2
def ft {st on:Int}{l:List aD}{x:aD}(h:jl st on l=o_ x):x∈l/\x.Md=st/\x.on=on:=by
 have h1:x∈l.filter (ie st on):=(xw _ n_ h).elim (λe=>e) (λe=>Zdk);obtain⟨h2,h3⟩:=L2.1 h1;unfold ie at h3;simp only[J7,decide_eq_true_eq]at h3;exact⟨h2,h3⟩
def Dt {st on:Int}{l:List aD}(h:jl st on l=n_):l.filter (ie st on)=[]:=by
 unfold jl jo at h;rcases List.eq_nil_or_concat (l.filter (ie st on))with e|⟨l',x,e⟩
 .exact e
 .rw [e,List.concat_eq_append,List.foldl_append]at h
  simp only[List.foldl_cons,List.foldl_nil]at h;obtain⟨y,hy⟩:=pN (l'.foldl iy n_) x;rw[hy]at h;cases h
def sr {α:Type}{num:α->Int}{ok:α->Bool}:∀{l:List α}{last:Int},(∀x∈l,cv (num x) 1 1000=true/\ok x=true)->(∀x∈l,last<num x)->l.Pairwise (λx y=>num x<num y)->aw num ok last l=true
 |[],_,_,_,_=>rfl
 |x::r,last,h1,h2,h3=>by
  obtain⟨h4,h5⟩:=LM.1 h3;simp only[aw,J7,decide_eq_true_eq];exact⟨⟨⟨(h1 x zy).1,h2 x zy⟩,(h1 x zy).2⟩,sr (λy hy=>h1 y Zdr) h4 h5⟩
def nj {α:Type}{num:α->Int}{ok:α->Bool}{l:List α}{last id:Int}{f:α->α}(h:aw num ok last l=true)(hf:∀x,num (f x)=num x)(ho:∀x∈l,num x=id->ok (f x)=true):aw num ok last (jP num id f l)=true:=by
 obtain⟨h1,h2⟩:=db h;have h3:=cK h;have e:∀z:α,num (if num z=id then f z else z)=num z:=λz=>by split<;>simp[hf]
 refine sr (λy hy=>?_) (λy hy=>?_) ?_
 .obtain ⟨z,hz,rfl⟩:=Lr.1 hy
  refine⟨by rw[e];exact(h3 z hz).1,?_⟩
  split
  .exact ho z hz ‹_›
  .exact (h3 z hz).2
 .obtain ⟨z,hz,rfl⟩:=Lr.1 hy
  rw[e];exact h1 z hz
 .unfold jP
  rw[Qm];exact h2.imp λ{a b} hab=>by rw[e,e];exact hab
def vN {α:Type}{num:α->Int}{id:Int}{f:α->α}(hf:∀x,num (f x)=num x)(l:List α):(jP num id f l).map num=l.map num:=by
 unfold jP;rw[Lv];refine Lw λz _=>?_
 simp only[Ls]
 split<;>simp[hf]
section
variable {p:aE}
def aQ.proc (h:aQ p){x:aD}(hx:x∈p.L8):cv x.id 1 1000=true/\cH x=true/\fF p.next x=true/\dG p x=true:=by
 obtain⟨h1,h2⟩:=cK h.L8 x hx;simp only[J7]at h2;exact⟨h1,h2.1.1,h2.1.2,h2.2⟩
def aQ.kW (h:aQ p):p.L8.Pairwise (λx y=>x.id<y.id):=(db h.L8).2
def aQ.ju {id nx:Int}{f:aD->aD}(h:aQ p)(hid:∀x,(f x).id=x.id)(hn:p.next<=nx/\nx<=1000000000)
  (hx:∀x∈p.L8,x.id=id->cH (f x)=true/\fF nx (f x)=true/\dG p (f x)=true/\((f x).RU=x.RU\/(f x).RU=0\/(f x).RU=p.next)):aQ {p with next:=nx,L8:=ce id f p.L8}:=by
 have hnx:=bz.1 h.next;have e:∀z:aD,(if z.id=id then f z else z).id=z.id:=λz=>by split<;>simp[hid]
 refine⟨h.id,(show cv nx 1 1000000000=true from eB zw hn.2),by simpa[ce]using h.dl,h.fx,h.cD,h.cC,h.cb,h.dH,?_,h.aj,h.L9,h.ag,h.ae,h.ai,?_⟩
 .obtain ⟨h1,h2⟩:=db h.L8
  refine sr (λy hy=>?_) (λy hy=>?_) ?_
  .obtain ⟨z,hz,rfl⟩:=Lr.1 hy
   refine⟨by rw[e];exact(h.proc hz).1,?_⟩;simp only[J7]
   split
   .rename_i hi
    obtain⟨k1,k2,k3,-⟩:=hx z hz hi;exact⟨⟨k1,k2⟩,k3⟩
   .obtain ⟨-,k1,k2,k3⟩:=h.proc hz
    refine⟨⟨k1,?_⟩,k3⟩;unfold fF at k2⊢;simp only[Kb,decide_eq_true_eq]at k2⊢;rcases k2 with k2|k2
    .exact .inl k2
    .have:=bz.1 k2;exact .inr (eB zw (by show _<=nx-1;omega))
  .obtain ⟨z,hz,rfl⟩:=Lr.1 hy
   rw[e];exact h1 z hz
  .show (ce id f p.L8).Pairwise _
   exact rW hid h2
 .have hs:∀z∈p.L8,z.RU<p.next/\0<=z.RU:=λz hz=>by
   obtain⟨-,k1,k2,-⟩:=h.proc hz;by_cases h0:z.Md=0
   .have:=kx k1 h0;omega
   .unfold fF at k2
    simp only[Kb,decide_eq_true_eq,h0,false_or]at k2
    have:=bz.1 k2;omega
  have ha:=h.apart;unfold rb at ha⊢
  show((ce id f p.L8).map (·.RU)).Pairwise _
  unfold ce;rw[Lv,Qm];rw[Qm]at ha;refine List.Pairwise.imp_of_mem (λ{a b} ham wU hab=>?_) (ha.and h.kW);obtain⟨h1,h2⟩:=hab;have sa:=hs a ham;have sb:=hs b wU;simp only[Ls];by_cases ea:a.id=id
  .rw [if_pos ea,if_neg zw]
   obtain⟨-,-,-,k⟩:=hx a ham ea;rintro⟨u,v⟩;rcases k with k|k|k
   .rw [k]at u;exact h1 ⟨u,v⟩
   .omega
   .omega
  .rw [if_neg ea]
   by_cases eb:b.id=id
   .rw [if_pos eb]
    obtain⟨-,-,-,k⟩:=hx b wU eb;rintro⟨u,v⟩;rcases k with k|k|k
    .rw [k]at u v;exact h1 ⟨u,v⟩
    .omega
    .omega
   .rw [if_neg eb];exact h1
def aQ.GD {l:List bD}(h:aQ p)(hi:l.map (·.id)=p.aj.map (·.id))(hr:aw (·.id) gw 0 l=true):aQ {p with aj:=l}:=by
 have hw:dG {p with aj:=l}=dG p:=Zdw
 have hl:l.length=p.aj.length:=ZcY
 exact⟨h.id,h.next,h.dl,by show l.length<=5;rw[hl];exact h.fx,h.cD,h.cC,h.cb,h.dH,ZdU,hr,h.L9,h.ag,h.ae,h.ai,h.apart⟩
def aQ.Cz {l:List aB}(h:aQ p)(hi:l.map (·.id)=p.L9.map (·.id))(hr:aw (·.id) ey 0 l=true):aQ {p with L9:=l}:=by
 have hw:dG {p with L9:=l}=dG p:=Zdw
 have hl:l.length=p.L9.length:=ZcY
 exact⟨h.id,h.next,h.dl,h.fx,by show l.length<=5;rw[hl];exact h.cD,h.cC,h.cb,h.dH,ZdU,h.aj,hr,h.ag,h.ae,h.ai,h.apart⟩
def aQ.C5 {l:List az}(h:aQ p)(hi:l.map (·.id)=p.ag.map (·.id))(hr:aw (·.id) cU 0 l=true):aQ {p with ag:=l}:=by
 have hw:dG {p with ag:=l}=dG p:=Zdw
 have hl:l.length=p.ag.length:=ZcY
 exact⟨h.id,h.next,h.dl,h.fx,h.cD,by show l.length<=5;rw[hl];exact h.cC,h.cb,h.dH,ZdU,h.aj,h.L9,hr,h.ae,h.ai,h.apart⟩
def aQ.Cb {l:List ci}(h:aQ p)(hi:l.map (·.id)=p.ae.map (·.id))(hr:aw (·.id) ct 0 l=true):aQ {p with ae:=l}:=by
 have hw:dG {p with ae:=l}=dG p:=Zdw
 have hl:l.length=p.ae.length:=ZcY
 exact⟨h.id,h.next,h.dl,h.fx,h.cD,h.cC,by show l.length<=5;rw[hl];exact h.cb,h.dH,ZdU,h.aj,h.L9,h.ag,hr,h.ai,h.apart⟩
def aQ.Es {l:List dS}(h:aQ p)(hi:l.map (·.id)=p.ai.map (·.id))(hr:aw (·.id) dj 0 l=true):aQ {p with ai:=l}:=by
 have hw:dG {p with ai:=l}=dG p:=by funext x;simp only[dG,hasB]
 have hl:l.length=p.ai.length:=ZcY
 exact⟨h.id,h.next,h.dl,h.fx,h.cD,h.cC,h.cb,by show l.length<=5;rw[hl];exact h.dH,ZdU,h.aj,h.L9,h.ag,h.ae,hr,h.apart⟩
end
def jY (x:aD):Bool:=cv x.RX 1 50&&jm x.prog&&bw x.held&&bw x.got&&cv x.code 0 3
def fG (x:aD):cH x=(jY x&&bO x):=rfl
def jX:bw rM=true:=by decide
def oB:bI rM=true:=by simp[bI,rM,PQ]
def iT {x:aD}(h:cH x=true)(h0:¬x.Md=0):0<=x.pc/\x.pc<x.prog.length:=by
 rw[fG,J7]at h;have h3:=h.2;unfold bO at h3;have h4:dU x=true:=by
  rw[if_neg h0]at h3
  split at h3
  .simp only[J7]at h3;exact h3.1.1.1.1
  .exact Zah
 have h5:=bz.1 h4;omega
def yG {l:List dN}(h:jm l=true){i:Nat}{o:dN}(ho:l[i]? =o_ o):kc o=true:=by
 unfold jm nq at h;have h1:=(of_decide_eq_true h).2.2 i (Lj.1 ho).1;unfold j8 Cd Cg Ea Ce at h1;rw[ho]at h1;exact h1
def lK {l:List dN}(h:jm l=true):1<=l.length/\l.length<=20:=by
 unfold jm nq at h;have h1:=of_decide_eq_true h;exact⟨h1.1,h1.2.1⟩
def mr {x:aD}(hp:jm x.prog=true)(hs:x.Md=1)(hc:0<=x.pc/\x.pc<x.prog.length)(hl:x.left=0)(hw:x.Mg=0)(ho:x.on=0)(hh:bI x.held=true):bO x=true:=by
 unfold bO;rw[if_neg zw,if_pos hs,hw,ho,hh];have h1:dU x=true:=eB hc.1 zw;have h2:jJ x=true:=by
  unfold jJ;rw[hl]
  split
  .rename_i hk
   unfold opAt at hk⊢;have h3:x.pc.toNat<x.prog.length:=zw
   rw[Kz h3]at hk⊢;simp only[Option.getD_some]at hk⊢;have h4:=yG hp (Kz h3);unfold kc mQ at h4;rw[hk]at h4;have h5:cv (x.prog[x.pc.toNat]).2.1 1 1000=true:=by simp at h4;exact h4.1.1
   have:=bz.1 h5
   simp only[J7,decide_eq_true_eq];omega
  .rfl
 rw[h1,h2];rfl
def vQ {x:aD}(h:jY x=true):cH (j7 x)=true:=by
 rw[fG,J7];constructor
 .unfold jY at h⊢
  simp only[J7]at h⊢;exact⟨⟨⟨h.1.1.1,jX⟩,h.1.2⟩,h.2⟩
 .unfold bO j7
  simp[oB]
def vF {x:aD}{code s:Int}(h:jY x=true)(hc:cv code 0 3=true)(h0:0<=x.pc)(h1:x.pc+1<x.prog.length):cH {jM code x with RU:=s}=true:=by
 rw[fG,J7];unfold jY at h⊢;simp only[J7]at h⊢;refine⟨⟨⟨⟨h.1.1.1,jX⟩,h.1.2⟩,hc⟩,mr (x:={jM code x with RU:=s}) h.1.1.1.2 rfl ⟨by show 0<=x.pc+1;omega,h1⟩ rfl rfl rfl oB⟩
section
variable {p:aE}{x:aD}
def iF (h:cH x=true):jY x=true:=by rw[fG,J7]at h;exact h.1
def vm {code:Int}(h:cH x=true)(h0:¬x.Md=0)(hc:cv code 0 3=true):cH (jT code x)=true:=by
 obtain⟨h1,h2⟩:=iT h h0;unfold jT
 split
 .refine vQ ?_
  have h3:=iF h;unfold jY at h3⊢;simp only[J7]at h3⊢;exact⟨⟨⟨h3.1.1.1,jX⟩,h3.1.2⟩,hc⟩
 .have:=vF (s:=x.RU) (iF h) hc h1 zw
  exact this
def AR {code nx:Int}(h:cH x=true)(h0:¬x.Md=0)(hc:cv code 0 3=true):cH (iY nx code x)=true:=by
 obtain⟨h1,h2⟩:=iT h h0;unfold iY
 split
 .have:=vm (code:=code) h h0 hc
  unfold jT at this;rw[if_pos ‹_›]at this;exact this
 .exact vF (iF h) hc h1 zw
def zF {code id:Int}(h:aQ p)(h0:∀x∈p.L8,x.id=id->¬x.Md=0)(hc:cv code 0 3=true):aQ (bu code id p):=by
 have hn:=bz.1 h.next;refine h.ju (nx:=p.next) (f:=jT code) (λx=>by unfold jT;split<;>rfl) ⟨LJ _,hn.2⟩ λx hx hi=>?_
 obtain⟨-,k1,k2,-⟩:=h.proc hx;have k0:=h0 x hx hi;refine⟨vm k1 k0 hc,?_,?_,?_⟩
 .unfold fF at k2⊢
  simp only[Kb,decide_eq_true_eq,k0,false_or]at k2⊢;unfold jT
  split
  .exact .inl rfl
  .exact .inr k2
 .unfold dG
  rw[if_neg];unfold jT
  split<;>simp[j7,jM]
 .unfold jT
  split
  .exact .inr (.inl rfl)
  .exact .inl rfl
def lO {code:Int}{f:aD->aD}(h:aQ p)(hx:x∈p.L8)(h0:¬x.Md=0)(hc:cv code 0 3=true)(hf:∀y,(f y).id=y.id/\(f y).pc=y.pc/\(f y).prog=y.prog/\(f y).Md=y.Md)(hr:cH (f x)=true)(hn:p.next+1<=1000000000):
  aQ {p with next:=gf p.next x,L8:=ce x.id (λy=>iY p.next code (f y)) p.L8}:=by
 have hnx:=bz.1 h.next;have hw:gf p.next x=if(f x).pc+1=(f x).prog.length then p.next else p.next+1:=by unfold gf;rw[(hf x).2.1,(hf x).2.2.1]
 refine h.ju (f:=λy=>iY p.next code (f y)) (λy=>by rw[(rD _ _ _).1,(hf y).1]) ?_ λy hy hi=>?_
 .rw [hw];split<;>omega
 .have e:y=x:=by
   exact Zby
  subst e;have hs:¬(f y).Md=0:=by rw[(hf y).2.2.2];exact h0
  refine⟨AR hr hs hc,?_,?_,?_⟩
  .unfold fF
   rw[hw];simp only[Kb,decide_eq_true_eq];unfold iY
   split
   .exact .inl rfl
   .exact .inr (eB (by show 1<=p.next;omega) (by show p.next<=_;omega))
  .unfold dG
   rw[if_neg];unfold iY
   split<;>simp[j7,jM]
  .unfold iY
   split
   .exact .inr (.inl rfl)
   .exact .inr (.inr rfl)
def mU (nx:Int)(x:aD):nx<=gf nx x/\gf nx x<=nx+1:=by unfold gf;split<;>omega
def vd {bE:Int}(h:aQ p)(hx:lZ bE p.L8=o_ x)(hn:p.next+1<=1000000000):aQ (gu p x):=by
 obtain⟨hm,hd⟩:=af9.mem hx;unfold og at hd;simp only[J7,decide_eq_true_eq]at hd;exact lO (f:=λy=>y) h hm zw (by unfold mL;split<;>rfl) (λ_=>⟨rfl,rfl,rfl,rfl⟩) (h.proc hm).2.1 hn
def qI {bE:Int}:∀(n:Nat)(p:aE),aQ p->p.next+n<=1000000000->aQ (oO bE n p)/\p.next<=(oO bE n p).next/\(oO bE n p).next<=p.next+n
 |0,p,h,_=>⟨h,by simp[oO]⟩
 |n+1,p,h,hn=>by
  unfold oO
  split
  .exact ⟨h,zw,zw⟩
  .rename_i x hx
   have h1:=vd h hx zw;have h2:(gu p x).next=gf p.next x:=rfl;have h3:=mU p.next x;obtain⟨h4,h5,h6⟩:=qI n (gu p x) h1 zw;exact⟨h4,zw,zw⟩
def ru {bE:Int}(h:aQ p)(hn:p.next<=999999990):aQ (gj bE p)/\p.next<=(gj bE p).next/\(gj bE p).next<=p.next+6:=by
 have h1:(lF bE p.L8).length<=p.L8.length:=Qq _ _;have h2:=h.dl;obtain⟨h3,h4,h5⟩:=qI (bE:=bE) (lF bE p.L8).length p h zw;exact⟨h3,h4,by unfold gj;omega⟩
def iQ {t:ByteArray}{id:Int}(h:aQ p)(ht:bw t=true):aQ (ez t id p):=by
 have hn:=bz.1 h.next;refine h.ju (nx:=p.next) (f:=lG t) (λ_=>rfl) ⟨LJ _,hn.2⟩ λx hx _=>?_
 obtain⟨-,k1,k2,k3⟩:=h.proc hx;refine⟨?_,k2,k3,.inl rfl⟩;exact ZaC
def i9 {f:aD->aD}(h:aQ p)(hx:x∈p.L8)(h0:¬x.Md=0)(hf:f=(λy=>y)\/ ∃t,bw t=true/\f=lG t)(hn:p.next+1<=1000000000):aQ (gF f p x):=by
 rcases hf with rfl|⟨t,ht,rfl⟩
 .exact lO h hx h0 rfl (λ_=>⟨rfl,rfl,rfl,rfl⟩) (h.proc hx).2.1 hn
 .refine lO (f:=lG t) h hx h0 rfl (λ_=>⟨rfl,rfl,rfl,rfl⟩) ?_ hn
  have k1:=(h.proc hx).2.1;exact ZaC
def oU {f:aD->aD}{st on:Int}(hst:¬st=0)(hf:f=(λy=>y)\/ ∃t,bw t=true/\f=lG t):∀(n:Nat)(p:aE),aQ p->p.next+n<=1000000000->aQ (gW f st on n p)/\p.next<=(gW f st on n p).next/\(gW f st on n p).next<=p.next+n
 |0,p,h,_=>⟨h,by simp[gW]⟩
 |n+1,p,h,hn=>by
  unfold gW
  split
  .exact ⟨h,zw,zw⟩
  .rename_i x hx
   obtain⟨m1,m2,-⟩:=ft hx;have h1:=i9 (f:=f) h m1 zw hf zw;have h2:(gF f p x).next=gf p.next x:=rfl;have h3:=mU p.next x;obtain⟨h4,h5,h6⟩:=oU hst hf n (gF f p x) h1 zw;exact⟨h4,zw,zw⟩
def pP {f:aD->aD}{st on:Int}(hst:¬st=0)(hf:f=(λy=>y)\/ ∃t,bw t=true/\f=lG t)(h:aQ p)(hn:p.next<=999999990):aQ (ff f st on p)/\p.next<=(ff f st on p).next/\(ff f st on p).next<=p.next+6:=by
 have h1:(p.L8.filter (ie st on)).length<=p.L8.length:=Qq _ _;have h2:=h.dl;obtain⟨h3,h4,h5⟩:=oU (on:=on) hst hf (p.L8.filter (ie st on)).length p h zw;exact⟨h3,h4,by unfold ff;omega⟩
end
def empty_eq {s:ByteArray}(h:bI s=true):s=rM:=by
 have h1:s.data.toList=[]:=by simpa[bI,PQ]using h
 cases s with
 |mk d=>
  have:d=#[]:=Array.toList_eq_nil_iff.1 h1
  rw[this];rfl
def afc (id:Int)(p:aE):Prop:=∀y∈p.L8,y.id=id->y.Md=1
def xr (id:Int)(p:aE):Prop:=∀y∈p.L8,y.id=id->y.Md=1/\y.left=0
section
variable {p:aE}{id:Int}
def xr.up (h:xr id p):afc id p:=λy hy hi=>(h y hy hi).1
def afc.not (h:afc id p):∀y∈p.L8,y.id=id->¬y.Md=0:=λy hy hi=>by rw[h y hy hi];decide
def afc.other {k nx:Int}{f:aD->aD}(h:afc id p)(hk:¬k=id)(hf:∀x,(f x).id=x.id):afc id {p with next:=nx,L8:=ce k f p.L8}:=λy hy hi=>by
 obtain⟨z,hz,rfl⟩:=Lr.1 (show y∈ce k f p.L8 from hy)
 split at hi
 .rw [hf]at hi;omega
 .rw [if_neg ‹_›];exact h z hz hi
def xr.got {t:ByteArray}{k:Int}(h:xr id p):xr id (ez t k p):=λy hy hi=>by
 obtain⟨z,hz,rfl⟩:=Lr.1 (show y∈ce k (lG t) p.L8 from hy)
 split at hi
 .rw [if_pos ‹_›];exact h z hz hi
 .rw [if_neg ‹_›];exact h z hz hi
def afc.Mg {f:aD->aD}{x:aD}(h:afc id p)(hx:x∈p.L8)(hs:¬x.Md=1)(hf:∀y,(f y).id=y.id):afc id (gF f p x):=
 afc.other h (λe=>hs (h x hx e)) λy=>by rw[(rD _ _ _).1,hf]
def afc.gW {f:aD->aD}{st on:Int}(hst:¬st=1)(hf:∀y,(f y).id=y.id):∀(n:Nat)(p:aE),afc id p->afc id (gW f st on n p)
 |0,_,h=>h
 |n+1,p,h=>by
  unfold Go.Proofs.YtckenjkcmajicaaGreat.gW
  split
  .exact h
  .rename_i x hx
   obtain⟨m1,m2,-⟩:=ft hx;exact afc.gW hst hf n _ (h.Mg m1 zw hf)
def afc.ff {f:aD->aD}{st on:Int}(h:afc id p)(hst:¬st=1)(hf:∀y,(f y).id=y.id):afc id (ff f st on p):=afc.gW hst hf _ _ h
def D6 {code:Int}(h:aQ p)(hu:afc id p)(hc:cv code 0 3=true):aQ (bu code id p):=zF h hu.not hc
def sO {st on Mg:Int}{held:ByteArray}(h:aQ p)(hu:xr id p)(hn:p.next+1<=1000000000)
  (hs:st=2/\on=0/\bI held=true/\cv Mg 1 2000000000=true\/(st=5/\bw held=true\/(st=3\/st=4\/st=6\/st=7)/\bI held=true)/\lh Mg=true/\hasB p st on=true):aQ (kC st on held Mg id p):=by
 have hnx:=bz.1 h.next;refine h.ju (f:=zb p.next st on held Mg) (λ_=>rfl) ⟨zw,hn⟩ λx hx hi=>?_
 obtain⟨hx1,hx2⟩:=hu x hx hi;obtain⟨-,k1,k2,k3⟩:=h.proc hx;have hop:=iT k1 (by rw[hx1];decide);have hb:=iF k1;have hh:bw held=true:=by
  rcases hs with hs|⟨hs|hs,-⟩
  .rw [empty_eq hs.2.2.1];rfl
  .exact hs.2
  .rw [empty_eq hs.2];rfl
 have ho:dU (zb p.next st on held Mg x)=true:=eB hop.1 (by show x.pc<=(x.prog.length:Int)-1;omega);have hst:bO (zb p.next st on held Mg x)=true:=by
  unfold bO;rw[ho]
  show(if st=0 then _ else if st=1 then _ else if st=2 then true&&decide (x.left=0)&&cv Mg 1 2000000000&&decide (on=0)&&bI held else if st=5 then true&&decide (x.left=0)&&lh Mg else if st=3\/st=4\/st=6\/st=7 then true&&decide (x.left=0)&&lh Mg&&bI held else false)=true
  rw[hx2];rcases hs with⟨rfl,rfl,h3,h4⟩|⟨⟨rfl,h3⟩|⟨h3,h4⟩,h5,-⟩
  .simp [h3,h4]
  .simp [h5]
  .rcases h3 with rfl|rfl|rfl|rfl<;>simp[h4,h5]
 refine⟨?_,?_,?_,.inr (.inr rfl)⟩
 .rw [fG,J7]
  refine⟨?_,hst⟩;unfold jY at hb⊢;simp only[J7]at hb⊢;exact⟨⟨⟨hb.1.1.1,hh⟩,hb.1.2⟩,hb.2⟩
 .unfold fF
  rw[Kb];exact Zap
 .unfold dG
  show(if 3<=st then hasB p st on else true)=true
  rcases hs with⟨rfl,-⟩|⟨-,-,h5⟩
  .rfl
  .split
   .exact h5
   .rfl
def Ha {st bE:Int}{o:dN}(h:aQ p)(hu:xr id p)(hn:p.next+1<=1000000000)(eu:0<=bE/\bE<=1000000000)(hm:cv o.2.2.1 (-1) 1000=true)
  (hs:st=5/\bw o.2.2.2=true\/(st=3\/st=4\/st=6\/st=7)/\bI o.2.2.2=true)(hh:hasB p st o.2.1=true):aQ (mX st o bE id p):=by
 have hm':=bz.1 hm;unfold mX
 split
 .exact D6 h hu.up rfl
 .refine sO h hu hn (.inr ⟨hs,?_,hh⟩)
  unfold lh kZ;rw[Kb]
  split
  .exact .inl (eB zw zw)
  .exact .inr zy
def IT {st bE:Int}{o:dN}:p.next<=(mX st o bE id p).next/\(mX st o bE id p).next<=p.next+1:=by
 unfold mX
 split
 .exact ⟨LJ _,by show p.next<=_;omega⟩
 .exact ⟨by show p.next<=p.next+1;omega,LJ _⟩
def mx {k d:Int}(h:aQ p)(hd:∀s∈p.aj,s.id=k->0<=s.n+d/\s.n+d<=s.max):aQ (nZ k d p):=
 h.GD Zds (nj h.aj (λ_=>rfl) λs hs hk=>by
  have h1:=(cK h.aj s hs).2;unfold gw at h1⊢;simp only[J7]at h1⊢;exact⟨h1.1,eB (hd s hs hk).1 (hd s hs hk).2⟩)
def kw {k:Int}{b:Bool}(h:aQ p):aQ (gL k b p):=h.Cz Zds (nj h.L9 (λ_=>rfl) λ_ _ _=>rfl)
def kA {k:Int}{b:Bool}{t:ByteArray}(h:aQ p)(ht:bw t=true)(hb:b=true\/bI t=true):aQ (ib k b t p):=
 h.C5 Zds (nj h.ag (λ_=>rfl) λs hs hk=>by
  unfold cU;simp only[J7,Kb];exact⟨ht,hb⟩)
def lv {l:List ByteArray}{m:Int}:dJ l m=true↔(l.length:Int)<=m/\∀t∈l,bw t=true:=by
 unfold dJ;simp[and_comm]
def gN {k:Int}{l:List ByteArray}(h:aQ p)(hl:∀b∈p.ae,b.id=k->(l.length:Int)<=b.max)(ht:∀t∈l,bw t=true):aQ (cV k l p):=
 h.Cb Zds (nj h.ae (λ_=>rfl) λs hs hk=>by
  have h1:=(cK h.ae s hs).2;unfold ct at h1⊢;simp only[J7]at h1⊢;exact⟨h1.1,lv.2 ⟨hl s hs hk,ht⟩⟩)
def jj {k:Int}{l:List ByteArray}(h:aQ p)(hl:∀b∈p.ai,b.id=k->(l.length:Int)<=b.max)(ht:∀t∈l,bw t=true):aQ (gU k l p):=
 h.Es Zds (nj h.ai (λ_=>rfl) λs hs hk=>by
  have h1:=(cK h.ai s hs).2;unfold dj at h1⊢;simp only[J7]at h1⊢;exact⟨h1.1,lv.2 ⟨hl s hs hk,ht⟩⟩)
def only {α:Type}{num:α->Int}{ok:α->Bool}{last k:Int}{l:List α}{x y:α}(h:aw num ok last l=true)(hx:cg num k l=o_ x)(hy:y∈l)(hk:num y=k):y=x:=by
 obtain⟨h1,h2⟩:=ks hx;have h5:=(db h).2;rw[P8]at h5;obtain⟨i,hi1,rfl⟩:=LK.1 hy;obtain⟨j,DS,rfl⟩:=LK.1 h1;exact W_
def ul {α:Type}{num:α->Int}{k:Int}{l:List α}{x:α}(h:cg num k l=o_ x):decide (k∈l.map num)=true:=by
 obtain⟨h1,h2⟩:=ks h;exact decide_eq_true (Lr.2 ⟨x,h1,h2⟩)
end
def dv {o:dN}(h:kc o=true):(1<=o.1/\o.1<=17)/\(¬o.1=17->1<=o.2.1/\o.2.1<=1000)/\cv o.2.2.1 (-1) 1000=true/\bw o.2.2.2=true/\(¬o.1=8->¬o.1=10->¬o.1=13->bI o.2.2.2=true):=by
 unfold kc mQ at h
 split at h
 .simp only[J7,decide_eq_true_eq]at h
  have h1:=bz.1 h.1.1;exact⟨zw,λ_=>h1,by rw[h.1.2];rfl,Zfe,λ_ _ _=>h.2⟩
 .split at h
  .simp only[J7]at h
   have h1:=bz.1 h.1.1;exact⟨zw,λ_=>h1,h.1.2,Zfe,λ_ _ _=>h.2⟩
  .split at h
   .simp only[J7]at h
    have h1:=bz.1 h.1.1;exact⟨zw,λ_=>h1,h.1.2,h.2,λe _ _=>zw⟩
   .split at h
    .simp only[J7,decide_eq_true_eq]at h
     have h1:=bz.1 h.1.1;exact⟨zw,λ_=>h1,by rw[h.1.2];rfl,h.2,λ_ e1 e2=>zw⟩
    .split at h
     .simp only[J7,decide_eq_true_eq]at h
      exact⟨zw,λe=>zw,by rw[h.1.2];rfl,Zfe,λ_ _ _=>h.2⟩
     .cases h
def n7 (n:Int):n<=n/\n<=n+7:=zw
def sS (p q:aE):Prop:=aQ q/\p.next<=q.next/\q.next<=p.next+7
section
variable {p:aE}{id bE:Int}{o:dN}
def cP {code:Int}{q:aE}(h:aQ q)(hu:afc id q)(hc:cv code 0 3=true)(hn:p.next<=q.next/\q.next<=p.next+7):sS p (bu code id q):=⟨D6 h hu hc,hn⟩
def B8 {st:Int}{q:aE}(h:aQ q)(hu:xr id q)(hq:q.next=p.next)(hn:p.next+1<=1000000000)(eu:0<=bE/\bE<=1000000000)(hm:cv o.2.2.1 (-1) 1000=true)
  (hs:st=5/\bw o.2.2.2=true\/(st=3\/st=4\/st=6\/st=7)/\bI o.2.2.2=true)(hh:hasB q st o.2.1=true):sS p (mX st o bE id q):=by
 have h1:=IT (p:=q) (id:=id) (st:=st) (bE:=bE) (o:=o);exact⟨Ha h hu zw eu hm hs hh,zw,zw⟩
def pw {s:bD}(h:aQ p)(hf:cg (·.id) o.2.1 p.aj=o_ s):hasB p 3 o.2.1=true/\0<=s.n/\s.n<=s.max:=by
 refine⟨ul hf,?_⟩;have h1:=(cK h.aj s (ks hf).1).2;unfold gw at h1;simp only[J7]at h1;exact bz.1 h1.2
def ji {b:ci}(h:aQ p)(hf:cg (·.id) o.2.1 p.ae=o_ b):hasB p 5 o.2.1=true/\hasB p 6 o.2.1=true/\(b.Ma.length:Int)<=b.max/\∀t∈b.Ma,bw t=true:=by
 refine⟨ul hf,ul hf,?_⟩;have h1:=(cK h.ae b (ks hf).1).2;unfold ct at h1;simp only[J7]at h1;exact lv.1 h1.2
def nB {q:dS}(h:aQ p)(hf:cg (·.id) o.2.1 p.ai=o_ q):1<=q.max/\(q.Ma.length:Int)<=q.max/\∀t∈q.Ma,bw t=true:=by
 have h1:=(cK h.ai q (ks hf).1).2;unfold dj at h1;simp only[J7]at h1;exact⟨(bz.1 h1.1.1).1,lv.1 h1.2⟩
def sX {b:az}(h:aQ p)(hf:cg (·.id) o.2.1 p.ag=o_ b):hasB p 7 o.2.1=true/\bw b.text=true:=by
 refine⟨ul hf,?_⟩;have h1:=(cK h.ag b (ks hf).1).2;unfold cU at h1;simp only[J7]at h1;exact h1.1
def CO (h:aQ p)(hu:xr id p)(hn:p.next<=999999990)(ho:kc o=true)(hk:o.1=3)(eu:0<=bE/\bE<=1000000000):sS p (mh o bE id p):=by
 obtain⟨f0,f1,f2,f3,f4⟩:=dv ho;unfold mh
 split
 .exact C_
 .rename_i s hs
  obtain⟨k1,k2,k3⟩:=pw h hs
  split
  .exact B8 h hu rfl zw eu f2 (.inr ⟨.inl rfl,f4 zw zw zw⟩) k1
  .exact Za6
def yH (h:aQ p)(hu:xr id p)(hn:p.next<=999999990):sS p (gJ o id p):=by
 unfold gJ
 split
 .exact C_
 .rename_i s hs
  obtain⟨k1,k2,k3⟩:=pw h hs
  split
  .rename_i y hy
   obtain⟨m1,m2,-⟩:=ft hy;have h3:=mU p.next y;exact cP (i9 h m1 zw (.inl rfl) zw) (hu.up.Mg m1 zw λ_=>rfl) rfl Zc6
  .split
   .exact C_
   .exact Za6
def zn (h:aQ p)(hu:xr id p)(hn:p.next<=999999990)(ho:kc o=true)(hk:o.1=5\/o.1=6\/o.1=7)(eu:0<=bE/\bE<=1000000000):sS p (dE o bE id p):=by
 obtain⟨f0,f1,f2,f3,f4⟩:=dv ho;unfold dE
 split
 .exact C_
 .rename_i e he
  split
  .have h1:=pP (on:=o.2.1) (f:=λy=>y) (st:=4) (by decide) (.inl rfl) (kw (k:=o.2.1) (b:=true) h) hn
   have h2:(gL o.2.1 true p).next=p.next:=rfl;exact cP h1.1 (afc.ff (p:=gL o.2.1 true p) hu.up (by decide) λ_=>rfl) rfl zw
  .split
   .exact cP (kw h) hu.up rfl (n7 p.next)
   .split
    .exact C_
    .exact B8 h hu rfl zw eu f2 (.inr ⟨.inr (.inl rfl),f4 zw zw zw⟩) (ul he)
def Dg (h:aQ p)(hu:xr id p)(hn:p.next<=999999990)(ho:kc o=true)(eu:0<=bE/\bE<=1000000000):sS p (lc o bE id p):=by
 obtain⟨f0,f1,f2,f3,f4⟩:=dv ho;unfold lc
 split
 .exact C_
 .rename_i b hb
  obtain⟨k1,k2,k3,k4⟩:=ji h hb
  split
  .rename_i y hy
   obtain⟨m1,m2,-⟩:=ft hy;have h3:=mU p.next y;exact cP (i9 h m1 zw (.inr ⟨_,f3,rfl⟩) zw) (hu.up.Mg m1 zw λ_=>rfl) rfl Zc6
  .split
   .exact B8 h hu rfl zw eu f2 (.inl ⟨rfl,f3⟩) k1
   .refine cP (gN h (λy hy hk=>?_) λt ht=>?_) hu.up rfl (n7 p.next)
    .rw [only h.ae hb hy hk,Lf];simp only[Lg,K4];omega
    .rcases Kg.1 ht with ht|ht
     .exact k4 t ht
     .exact Za3
def Dd (h:aQ p)(hu:xr id p)(hn:p.next<=999999990)(ho:kc o=true)(hk:o.1=9)(eu:0<=bE/\bE<=1000000000):sS p (ka o bE id p):=by
 obtain⟨f0,f1,f2,f3,f4⟩:=dv ho;unfold ka
 split
 .exact C_
 .rename_i b hb
  obtain⟨k1,k2,k3,k4⟩:=ji h hb
  split
  .exact B8 (iQ h jX) hu.got rfl zw eu f2 (.inr ⟨.inr (.inr (.inl rfl)),f4 zw zw zw⟩) k2
  .rename_i t r hr
   rw[hr]at k3 k4;simp only[Lg]at k3;have hg:aQ (ez t id p):=iQ h (k4 t zy);have hg':xr id (ez t id p):=hu.got;have hgb:cg (·.id) o.2.1 (ez t id p).ae=o_ b:=hb
   split
   .refine cP (gN hg (λy hy hk=>?_) λt ht=>k4 t (by simp[ht])) hg'.up rfl (n7 p.next)
    rw[only hg.ae hgb hy hk];omega
   .rename_i y hy
    obtain⟨m1,m2,-⟩:=ft hy;have h3:=mU p.next y;have hh:bw y.held=true:=by
     have h5:=iF (hg.proc m1).2.1;unfold jY at h5;simp only[J7]at h5;exact h5.1.1.2
    have hb2:aQ (cV o.2.1 (r++[y.held]) (ez t id p)):=gN hg (λz hz hk=>by rw[only hg.ae hgb hz hk,Lf];simp only[Lg,K4];omega) λs hs=>by
     rcases Kg.1 hs with hs|hs
     .exact k4 s Zft
     .simp only[Kt,Ku,or_false]at hs;rw[hs];exact hh
    exact cP (i9 hb2 m1 zw (.inl rfl) (by show p.next+1<=_;omega)) (afc.Mg (p:=cV o.2.1 (r++[y.held]) (ez t id p)) hg'.up m1 zw λ_=>rfl) rfl Zc6
def yv (h:aQ p)(hu:xr id p)(hn:p.next<=999999990)(ho:kc o=true)(hk:o.1=10\/o.1=11\/o.1=12)(eu:0<=bE/\bE<=1000000000):sS p (dC o bE id p):=by
 obtain⟨f0,f1,f2,f3,f4⟩:=dv ho;unfold dC
 split
 .exact C_
 .rename_i b hb
  obtain⟨k1,k2⟩:=sX h hb
  split
  .have h1:=pP (on:=o.2.1) (f:=lG o.2.2.2) (st:=7) (by decide) (.inr ⟨_,f3,rfl⟩) (kA (k:=o.2.1) (b:=true) h f3 (.inl rfl)) hn
   have h2:(ib o.2.1 true o.2.2.2 p).next=p.next:=rfl;exact cP h1.1 (afc.ff (p:=ib o.2.1 true o.2.2.2 p) hu.up (by decide) λ_=>rfl) rfl zw
  .split
   .exact cP (kA h jX (.inr oB)) hu.up rfl (n7 p.next)
   .split
    .exact cP (iQ h k2) hu.got.up rfl (n7 p.next)
    .exact B8 (iQ h k2) hu.got rfl zw eu f2 (.inr ⟨.inr (.inr (.inr rfl)),f4 zw zw zw⟩) k1
def By (h:aQ p)(hu:xr id p)(ho:kc o=true):sS p (ig o id p):=by
 obtain⟨f0,f1,f2,f3,f4⟩:=dv ho;unfold ig
 split
 .exact C_
 .rename_i q hq
  obtain⟨k1,k2,k3⟩:=nB h hq
  split
  .exact C_
  .split
   .refine cP (jj h (λy hy hk=>?_) λt ht=>?_) hu.up rfl (n7 p.next)
    .rw [only h.ai hq hy hk];exact k1
    .exact Za3
   .split
    .exact C_
    .refine cP (jj h (λy hy hk=>?_) λt ht=>?_) hu.up rfl (n7 p.next)
     .rw [only h.ai hq hy hk,Lf];simp only[Lg,K4];omega
     .rcases Kg.1 ht with ht|ht
      .exact k3 t ht
      .exact Za3
def zO (h:aQ p)(hu:xr id p):sS p (gC o id p):=by
 unfold gC
 split
 .exact C_
 .rename_i q hq
  obtain⟨k1,k2,k3⟩:=nB h hq
  split
  .exact C_
  .split
   .exact cP (iQ h jX) hu.got.up rfl (n7 p.next)
   .rename_i t r hr
    rw[hr]at k2 k3;simp only[Lg]at k2;have hg:aQ (ez t id p):=iQ h (k3 t zy);have hgb:cg (·.id) o.2.1 (ez t id p).ai=o_ q:=hq
    split
    .refine cP (jj hg (λy hy hk=>?_) λt ht=>k3 t (by simp[ht])) hu.got.up rfl (n7 p.next)
     rw[only hg.ai hgb hy hk];omega
    .exact cP hg hu.got.up rfl (n7 p.next)
def AO (h:aQ p)(hu:xr id p)(hn:p.next<=999999990):sS p (jU o id p):=by
 have hnx:=bz.1 h.next;unfold jU
 split
 .exact C_
 .rename_i y hy
  split
  .rename_i h0
   obtain⟨m1,m2⟩:=ks hy;have hne:¬o.2.1=id:=λe=>by have:=hu.up y m1 zw;omega
   refine cP (h.ju (nx:=p.next+1) (f:=λy=>{y with Md:=1,RU:=p.next}) (λ_=>rfl) ⟨zw,zw⟩ λz hz hi=>?_) (hu.up.other hne λ_=>rfl) rfl (by show p.next<=p.next+1/\p.next+1<=p.next+7;omega);have e:=only h.L8 hy hz hi;subst e;obtain⟨-,q1,q2,q3⟩:=h.proc hz;have q4:=iF q1;rw[fG,J7]at q1;have q5:=q1.2;unfold bO at q5;rw[if_pos h0]at q5;simp only[J7,decide_eq_true_eq]at q5;obtain⟨⟨⟨⟨⟨a1,a2⟩,a3⟩,a4⟩,a5⟩,a6⟩:=q5;have q6:jm z.prog=true:=by
    unfold jY at q4;simp only[J7]at q4;exact q4.1.1.1.2
   refine⟨?_,?_,rfl,.inr (.inr rfl)⟩
   .exact ZaJ
   .unfold fF
    rw[Kb];exact Zap
  .exact C_
def nG (h:aQ p){k:Int}:aQ (ot k p):=by
 have hnx:=bz.1 h.next;refine h.ju (nx:=p.next) (f:=j7) (λ_=>rfl) ⟨LJ _,hnx.2⟩ λz hz hi=>?_
 exact⟨vQ (iF (h.proc hz).2.1),rfl,rfl,.inr (.inl rfl)⟩
def Dr (h:aQ p)(hu:xr id p):sS p (lg o id p):=by
 unfold lg
 split
 .exact C_
 .split
  .exact C_
  .split
   .exact ⟨nG h,n7 p.next⟩
   .rename_i hne
    exact cP (nG h) (hu.up.other hne λ_=>rfl) rfl (n7 p.next)
end
def fK {P:aE->Prop}{c:Prop}[Decidable c]{a b:aE}(h1:c->P a)(h2:¬c->P b):P (if c then a else b):=by
 split
 .exact h1 ‹_›
 .exact h2 ‹_›
def AW {p:aE}{x:aD}{bE:Int}(h:aQ p)(hx:x∈p.L8)(hs:x.Md=1)(hn:p.next<=999999990)(eu:0<=bE/\bE<=1000000000):kc (opAt x)=true/\sS p (lX bE x (opAt x) p):=by
 obtain⟨-,k1,k2,k3⟩:=h.proc hx;have hnx:=bz.1 h.next;have hop:=iT k1 (by rw[hs];decide);have hb:=iF k1;have hpl:jm x.prog=true:=by
  unfold jY at hb;simp only[J7]at hb;exact hb.1.1.1.2
 have hlt:x.pc.toNat<x.prog.length:=zw
 have hoa:opAt x=x.prog[x.pc.toNat]:=by unfold opAt;rw[Kz hlt];rfl
 have ho:kc (opAt x)=true:=by rw[hoa];exact yG hpl (Kz hlt)
 refine⟨ho,?_⟩;have hst:dU x=true/\jJ x=true/\x.Mg=0/\x.on=0/\bI x.held=true:=by
  rw[fG,J7]at k1;have h3:=k1.2;unfold bO at h3;rw[if_neg zw,if_pos hs]at h3;simp only[J7,decide_eq_true_eq]at h3;exact⟨h3.1.1.1.1,h3.1.1.1.2,h3.1.1.2,h3.1.2,h3.2⟩
 have hone:∀y∈p.L8,y.id=x.id->y=x:=λy hy e=>by
  exact Zby
 have hup:afc x.id p:=λy hy e=>by rw[hone y hy e];exact hs
 obtain⟨f0,f1,f2,f3,f4⟩:=dv ho;have hl:¬(opAt x).1=1->xr x.id p:=λhk y hy e=>by
  rw[hone y hy e];refine⟨hs,?_⟩;have h4:=hst.2.1;unfold jJ at h4;rw[if_neg hk]at h4;exact of_decide_eq_true h4
 unfold lX;refine fK (P:=sS p) (λhk=>?_) (λhk1=>?_)
 .have h4:=hst.2.1
  unfold jJ at h4;rw[if_pos hk]at h4;simp only[J7,decide_eq_true_eq]at h4;have hN:=f1 zw;unfold GY;refine fK (P:=sS p) (λ_=>?_) (λhne=>?_)
  .exact cP h hup rfl zw
  .refine ⟨h.ju (nx:=p.next) (f:=λy=>{y with left:=(if x.left=0 then(opAt x).2.1 else x.left)-1}) (λ_=>rfl) ⟨LJ _,hnx.2⟩ λz hz hi=>?_,n7 p.next⟩
   rw[hone z hz hi];refine⟨?_,k2,k3,.inl rfl⟩;rw[fG,J7];refine⟨hb,?_⟩;unfold bO
   show(if x.Md=0 then _ else if x.Md=1 then dU x&&jJ {x with left:=(if x.left=0 then(opAt x).2.1 else x.left)-1}&&decide (x.Mg=0)&&decide (x.on=0)&&bI x.held else _)=true
   have h5:jJ {x with left:=(if x.left=0 then(opAt x).2.1 else x.left)-1}=true:=by
    unfold jJ
    show(if(opAt x).1=1 then decide (0<=(if x.left=0 then(opAt x).2.1 else x.left)-1)&&decide ((if x.left=0 then(opAt x).2.1 else x.left)-1<(opAt x).2.1)else _)=true
    rw[if_pos hk];simp only[J7,decide_eq_true_eq]
    split<;>omega
   rw[if_neg zw,if_pos hs,h5,hst.1,hst.2.2.1,hst.2.2.2.1,hst.2.2.2.2];rfl
 .have hu:=hl hk1
  refine fK (P:=sS p) (λhk=>?_) (λ_=>?_)
  .have hN:=f1 zw
   exact⟨sO h hu zw (.inl ⟨rfl,rfl,oB,eB zw zw⟩),by show p.next<=p.next+1;omega,by show p.next+1<=_;omega⟩
  .refine fK (P:=sS p) (λhk=>?_) (λ_=>?_)
   .exact CO h hu hn ho hk eu
   .refine fK (P:=sS p) (λhk=>?_) (λ_=>?_)
    .clear hk;exact yH h hu hn
    .refine fK (P:=sS p) (λhk=>?_) (λ_=>?_)
     .exact zn h hu hn ho hk eu
     .refine fK (P:=sS p) (λhk=>?_) (λ_=>?_)
      .exact Dg h hu hn ho eu
      .refine fK (P:=sS p) (λhk=>?_) (λ_=>?_)
       .exact Dd h hu hn ho hk eu
       .refine fK (P:=sS p) (λhk=>?_) (λ_=>?_)
        .exact yv h hu hn ho hk eu
        .refine fK (P:=sS p) (λhk=>?_) (λ_=>?_)
         .exact By h hu ho
         .refine fK (P:=sS p) (λhk=>?_) (λ_=>?_)
          .exact zO h hu
          .refine fK (P:=sS p) (λhk=>?_) (λ_=>?_)
           .exact AO h hu hn
           .refine fK (P:=sS p) (λhk=>?_) (λ_=>?_)
            .exact Dr h hu
            .refine ⟨h.ju (nx:=p.next) (f:=λy=>{y with pc:=0}) (λ_=>rfl) ⟨LJ _,hnx.2⟩ λz hz hi=>?_,n7 p.next⟩
             rw[hone z hz hi];have h5:=hu x hx rfl;have h6:=lK hpl;refine⟨?_,k2,k3,.inl rfl⟩;rw[fG,J7];exact⟨hb,mr (x:={x with pc:=0}) hpl hs ⟨LJ _,by show(0:Int)<x.prog.length;omega⟩ h5.2 hst.2.2.1 hst.2.2.2.1 hst.2.2.2.2⟩
def DA {p:aE}{bE:Int}(h:aQ p)(hn:p.next<=999999980)(eu:0<=bE/\bE<=1000000000):aQ (mS bE p)/\p.next<=(mS bE p).next/\(mS bE p).next<=p.next+13:=by
 obtain⟨h1,h2,h3⟩:=ru (bE:=bE) h zw;unfold mS
 split
 .exact ⟨h1,h2,zw⟩
 .rename_i x hx
  obtain⟨m1,m2,-⟩:=ft hx;obtain⟨-,h4,h5,h6⟩:=AW (bE:=bE) h1 m1 m2 zw eu;exact⟨h4,zw,zw⟩
def pT {n:Int}(h1: -2147483648<=n)(h2:n<=2147483647):(Lit.int j_ n).wf=true:=by
 have e1:IntKind.min j_<= -2147483648:=by decide
 have e2:2147483647<=IntKind.max j_:=by decide
 simp only[Lit.wf,J7,decide_eq_true_eq];omega
section
open Go.RowKit
def kv {s:ByteArray}(h:bw s=true):s.size<=1048576:=by
 unfold bw at h;simp only[J7,decide_eq_true_eq]at h;omega
def ta {p:aE}(h:aQ p):p.Small:=by
 have hid:∀{α:Type}{num:α->Int}{ok:α->Bool}{last:Int}{l:List α},aw num ok last l=true->∀x∈l,(Lit.int j_ (num x)).wf=true/\ok x=true:=λhl x hx=>by
  obtain⟨h1,h2⟩:=cK hl x hx
  have:=bz.1 h1
  exact⟨pT zw zw,h2⟩
 have hwf:∀{α:Type}{num:α->Int}{ok:α->Bool}{last k:Int}{l:List α},aw num ok last l=true->decide (k∈l.map num)=true->(Lit.int j_ k).wf=true:=λhl hk=>by
  obtain⟨x,hx,rfl⟩:=Lr.1 (of_decide_eq_true hk);exact(hid hl x hx).1
 refine⟨by have:=h.dl;omega,by have:=h.fx;omega,by have:=h.cD;omega,by have:=h.cC;omega,by have:=h.cb;omega,by have:=h.dH;omega,λx hx=>?_,λx hx=>(hid h.aj x hx).1,λx hx=>(hid h.L9 x hx).1,λx hx=>?_,λx hx=>?_,λx hx=>?_⟩
 .obtain ⟨k0,k1,k2,k3⟩:=h.proc hx
  have hb:=iF k1;unfold jY at hb;simp only[J7]at hb;have hl:=lK hb.1.1.1.2;have hi:=bz.1 k0;have hnx:=bz.1 h.next;refine⟨⟨zw,λo ho=>?_,kv hb.1.1.2,kv hb.1.2⟩,pT zw zw,?_,?_⟩
  .obtain ⟨i,hi1,hi2⟩:=LK.1 ho
   exact kv (dv (yG hb.1.1.1.2 (i:=i) (by rw[Kz hi1,hi2]))).2.2.2.1
  .unfold dG at k3
   by_cases h3:3<=x.Md
   .rw [if_pos h3]at k3
    unfold hasB at k3
    split at k3
    .exact hwf h.aj k3
    .split at k3
     .exact hwf h.L9 k3
     .split at k3
      .exact hwf h.ae k3
      .split at k3
       .exact hwf h.ag k3
       .cases k3
   .rw [fG,J7]at k1
    have k4:=k1.2;unfold bO at k4;have h0:x.on=0:=by
     split at k4
     .simp only[J7,decide_eq_true_eq]at k4;exact k4.1.1.2
     .split at k4
      .simp only[J7,decide_eq_true_eq]at k4;exact k4.1.2
      .split at k4
       .simp only[J7,decide_eq_true_eq]at k4;exact k4.1.2
       .split at k4
        .omega
        .split at k4
         .omega
         .cases k4
    rw[h0];rfl
  .by_cases h0:x.Md=0
   .rw [kx k1 h0];rfl
   .unfold fF at k2
    simp only[Kb,decide_eq_true_eq,h0,false_or]at k2
    have:=bz.1 k2
    exact pT zw zw
 .obtain ⟨k1,k2⟩:=hid h.ag x hx
  unfold cU at k2;simp only[J7]at k2;exact⟨k1,kv k2.1⟩
 .obtain ⟨k1,k2⟩:=hid h.ae x hx
  unfold ct at k2;simp only[J7]at k2;have k3:=lv.1 k2.2;have k4:=bz.1 k2.1;exact⟨k1,zw,λs hs=>kv (k3.2 s hs)⟩
 .obtain ⟨k1,k2⟩:=hid h.ai x hx
  unfold dj at k2;simp only[J7]at k2;have k3:=lv.1 k2.2;have k4:=bz.1 k2.1.1;exact⟨k1,zw,λs hs=>kv (k3.2 s hs)⟩
def wrap64_wf (n:Int):(Lit.int j_ (wrap64 n)).wf=true:=by
 have e1:IntKind.min j_= -9223372036854775808:=by decide
 have e2:IntKind.max j_=9223372036854775807:=by decide
 simp only[Lit.wf,J7,decide_eq_true_eq,e1,e2];unfold wrap64;omega
def Iv (r:Nat)(a:Option d_)(len cap:Nat)(low high:Int)(w:w_)(hl:len<=1048576)(l0: -1<=low)(l1:low<=high)(l2:high<=1000000000)(h:Rd r a len cap w):
  k_ J3 61 #[p_ (o_ ⟨r,0,n_⟩),i_ j_ low,i_ j_ high] w λe w'=>∃v:Int,e=r_ (i_ j_ v)/\(Lit.int j_ v).wf=true/\gG r w w'/\Rd r a len cap w':=by
 have HWL:da ((Lit.int j_ low).wf=true/\(Lit.int j_ high).wf=true):=⟨pT zw zw,pT zw zw⟩
 have k1:¬high<low:=zw
 have k2:¬high-low+1=0:=zw
 go_enter func61,ntmps61
 go_wp2_with fail;refine(dh r a len cap 8 _ hl zw zw h).mono ?_;rintro e w1 ⟨v,v0,v1,rfl,hb,hr⟩;by_cases e0:v=0
 .have b0:(v==0)=true:=by simp[e0]
  go_wp2;go_ret;exact⟨_,rfl,HWL.I.1,hb,hr⟩
 have b0:(v==0)=false:=by simp[e0]
 by_cases e1:v=1
 .have b1:(v==1)=true:=by simp[e1]
  go_wp2;go_ret;exact⟨_,rfl,HWL.I.2,hb,hr⟩
 have b1:(v==1)=false:=by simp[e1]
 go_wp2_with fail;refine(BO r a len cap _ hl hr).mono ?_;rintro e w2 ⟨x,rfl,hb2,hr2⟩;go_wp2;go_ret;exact⟨_,rfl,wrap64_wf _,hb.trans hb2,hr2⟩
def Gk (r:Nat)(a:Option d_)(len cap:Nat)(low high:Int)(w:w_)(hl:len<=1048576)(l0: -1<=low)(l1:low<=high)(l2:high<=1000000000)(h:Rd r a len cap w):
  k_ J3 33 #[p_ (o_ ⟨r,0,n_⟩),i_ j_ low,i_ j_ high] w λe w'=>∃v:Int,e=r_ (i_ j_ v)/\(Lit.int j_ v).wf=true/\gG r w w'/\Rd r a len cap w':=by
 go_enter func33,ntmps33
 go_wp2_with fail;refine(jt r a len cap 24 _ hl zw zw h).mono ?_;rintro e w1 ⟨v,rfl,hb,hr⟩;cases v with
 |true=>
  have rl:=hr.lt;go_wp2_with fail;refine(dh r a len cap 4 _ hl zw zw (hr.below ((Kp _ _).alloc (Ki _) _))).mono ?_;rintro e w2 ⟨v,v0,v1,rfl,hb2,hr2⟩;obtain⟨n,rfl⟩:=QK v0;have hn:n<4:=zw
  have hy:∃y,w2.cell? ⟨w1.heap.size,n,n_⟩=o_ (i_ j_ y)/\(Lit.int j_ y).wf=true:=by
   rw[hb2.cell (p:=⟨w1.heap.size,n,n_⟩) zy ZbI,World.cell?_alloc_new]
   match n,hn with
   |0,_=>exact⟨_,rfl,pT zw zw⟩
   |1,_=>exact⟨_,rfl,pT zw zw⟩
   |2,_=>exact⟨_,rfl,rfl⟩
   |3,_=>exact⟨_,rfl,rfl⟩
  obtain⟨y,hy,hyw⟩:=hy;have HY:da ((Lit.int j_ y).wf=true):=hyw;clear hyw;have HB:da (gG r w w2):=(hb.alloc _).trans hb2;clear hb2 hb;go_wp2;go_ret;exact⟨y,rfl,HY.I,HB.I,hr2⟩
 |false=>
  go_wp2_with fail;refine(Iv r a len cap low high _ hl l0 l1 l2 hr).mono ?_;rintro e w2 ⟨x,rfl,hxw,hb2,hr2⟩;go_wp2;go_ret;exact⟨_,rfl,hxw,hb.trans hb2,hr2⟩
end
end Go.Proofs.YtckenjkcmajicaaGreat
