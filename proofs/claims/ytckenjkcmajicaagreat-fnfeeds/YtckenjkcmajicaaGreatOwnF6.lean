/- What the proof leans on, part 6. -/
import Derived.Test.YtckenjkcmajicaaGreatOwnF1
import Derived.Deep.RegionLaw
import Derived.Deep.AppendLies
set_option linter.all false
set_option maxRecDepth 100000
set_option maxHeartbeats 8000000
open Go.Proofs.Tryz
open Go renaming World->w_,Value->v_,Calls->k_,Addr->d_,TypeId->T_
open Go.Ending renaming returned->r_
open Go.IntKind renaming i64->j_
open Go.Obj renaming cells->c_
open Go.RowKit renaming Below->B_,Hid->bN
open Go.Value renaming int->i_,slice->s_,bool->b_,string->t_,agg->a_,pointer->p_
open Option renaming some->o_,none->n_
open Go.Proofs.Tryz renaming prog->J3

namespace Go.Proofs.YtckenjkcmajicaaGreat
def dF (a b:aD):Bool:=if a.RX=b.RX then decide (a.RU < b.RU) else decide (b.RX < a.RX)
def iy (r:Option aD) (x:aD):Option aD:=match r with
 | none=>o_ x
 | some b=>if dF x b then o_ x else o_ b
def jo (l:List aD):Option aD:=l.foldl iy n_
def ny (l:List aD) (x:aD):jo (l ++ [x])=iy (jo l) x:=by simp [jo]
def zp {r:Option aD} {x y:aD} (h:iy r x=o_ y):y=x\/r=o_ y:=by
 unfold iy at h
 exact Zbk
def pN (r:Option aD) (x:aD): ∃ y,iy r x=o_ y:=by
 unfold iy
 split
 .exact ⟨_,rfl⟩
 .split <;> exact ⟨_,rfl⟩
def dO (f:aD->Bool) (l:List aD) (k:Nat) (i:Int):Prop:=match jo ((l.take k).filter f) with
 | none=>i= -1
 | some x=> ∃ n:Nat,i=n/\n < k/\l[n]? =o_ x
section
variable {f:aD->Bool} {l:List aD} {k:Nat} {i:Int} {x:aD}
def dO.start (f:aD->Bool) (l:List aD):dO f l 0 (-1):=by simp [dO,jo]
def rS (hx:l[k]? =o_ x):(l.take (k+1)).filter f=(l.take k).filter f ++ (if f x then [x] else []):=by
 rw [cj hx,QN];by_cases h:f x=true <;> simp [h]
def dO.skip (h:dO f l k i) (hx:l[k]? =o_ x) (hf:f x=false):dO f l (k+1) i:=by
 unfold dO at h ⊢;rw [rS hx,hf];exact Za1
def dO.first (h:dO f l k i) (hi:i < 0) (hx:l[k]? =o_ x) (hf:f x=true):dO f l (k+1) k:=by
 unfold dO at h ⊢;rw [rS hx,hf];simp only [if_true];rw [ny]
 exact Zbh
def dO.got (h:dO f l k i) (hi: ¬ i < 0): ∃ (n:Nat) (y:aD),i=n/\n < k/\l[n]? =o_ y/\jo ((l.take k).filter f)=o_ y:=by
 unfold dO at h
 exact Zbl
def dO.next {n:Nat} {y:aD} (hn:n < k) (hy:l[n]? =o_ y) (he:jo ((l.take k).filter f)=o_ y) (hx:l[k]? =o_ x) (hf:f x=true):dO f l (k+1) (if dF x y then (k:Int) else (n:Int)):=by
 unfold dO;rw [rS hx,hf];simp only [if_true];rw [ny,he];simp only [iy];by_cases ha:dF x y=true
 .simp only [ha,if_true]
  exact ⟨k,rfl,zw,hx⟩
 .simp only [ha,J5,if_false]
  exact ⟨n,rfl,zw,hy⟩
end
section
open Go.RowKit
structure pA where
 at_:Int
 len:Int
 part:Int
def VE (x:pA):List v_:= [i_ j_ x.at_,i_ j_ x.len,i_ j_ x.part]
def jq:Kind pA:=⟨3,VE,fun _=> [],by decide,fun _=>rfl⟩
structure eQ where
 src:Int
 ga:Int
 dst:Int
 hI:Int
def eQ.Wf (c:eQ):Prop:=(Lit.int j_ c.src).wf=true/\(Lit.int j_ c.ga).wf=true/\(Lit.int j_ c.dst).wf=true/\(Lit.int j_ c.hI).wf=true
abbrev nx (c:eQ):Array v_:= #[i_ j_ c.src,i_ j_ c.ga,i_ j_ c.dst,i_ j_ c.hI]
def Vg (x:eQ):List v_:= [i_ j_ x.src,i_ j_ x.ga,i_ j_ x.dst,i_ j_ x.hI]
def hM:Kind eQ:=⟨4,Vg,fun _=> [],by decide,fun _=>rfl⟩
def eQ.At (w:w_) (g i:Nat) (x:eQ):Prop:=w.cell? ⟨g,i * 4,n_⟩=o_ (i_ j_ x.src)/\w.cell? ⟨g,i * 4+1,n_⟩=o_ (i_ j_ x.ga)/\w.cell? ⟨g,i * 4+2,n_⟩=o_ (i_ j_ x.dst)/\w.cell? ⟨g,i * 4+3,n_⟩=o_ (i_ j_ x.hI)
def TH {w:w_} {a:Option d_} {l:List eQ} (h:hM.bU w a l) {i:Nat} {x:eQ} (hx:l[i]? =o_ x): ∃ g,a=o_ ⟨g,0,n_⟩/\eQ.At w g i x:=by
 obtain ⟨g,e,hc⟩:=h.at hx;exact ⟨g,e,hc 0 _ rfl,hc 1 _ rfl,hc 2 _ rfl,hc 3 _ rfl⟩
def UU (p:af):List v_:=p.cells.toList
def il (p:af):List (Option d_ × List v_):= [(p.aN,bg.flat p.L8),(p.bc,dm.flat p.aj),(p.ay,bJ.flat p.L9),(p.ax,bG.flat p.ag),(p.am,bm.flat p.ae),(p.aK,bX.flat p.ai)] ++ p.L8.flatMap bg.kids ++ p.ae.flatMap bm.kids ++ p.ai.flatMap bX.kids
def kp:Kind af:=⟨8,UU,il,by decide,fun _=>rfl⟩
def U2 {w:w_} {p:af} (h: ∀ r∈il p,Row w r.1 r.2):af.At w p:=by
 have h1: ∀ r∈ [(p.aN,bg.flat p.L8),(p.bc,dm.flat p.aj),(p.ay,bJ.flat p.L9),(p.ax,bG.flat p.ag),(p.am,bm.flat p.ae),(p.aK,bX.flat p.ai)],Row w r.1 r.2:=fun r hr=>h r (by simp only [il,Kg]; exact .inl (.inl (.inl hr)))
 refine ⟨⟨h1 (p.aN,bg.flat p.L8) zy,fun x hx r hr=>h r ?_⟩,⟨h1 (p.bc,dm.flat p.aj) zy,fun x _ r hr=>by simp [dm] at hr⟩,⟨h1 (p.ay,bJ.flat p.L9) zy,fun x _ r hr=>by simp [bJ] at hr⟩,⟨h1 (p.ax,bG.flat p.ag) zy,fun x _ r hr=>by simp [bG] at hr⟩,⟨h1 (p.am,bm.flat p.ae) zy,fun x hx r hr=>h r ?_⟩,⟨h1 (p.aK,bX.flat p.ai) zy,fun x hx r hr=>h r ?_⟩⟩
 all_goals simp only [il,Kg,Rt]
 .exact .inl (.inl (.inr ⟨x,hx,hr⟩))
 .exact .inl (.inr ⟨x,hx,hr⟩)
 .exact .inr ⟨x,hx,hr⟩
def af.In (w:w_) (g i:Nat) (p:af):Prop:=w.cell? ⟨g,i * 8,n_⟩=o_ (i_ j_ p.id)/\w.cell? ⟨g,i * 8+1,n_⟩=o_ (i_ j_ p.next)/\w.cell? ⟨g,i * 8+2,n_⟩=o_ (s_ p.aN p.L8.length p.aW)/\w.cell? ⟨g,i * 8+3,n_⟩=o_ (s_ p.bc p.aj.length p.bF)/\w.cell? ⟨g,i * 8+4,n_⟩=o_ (s_ p.ay p.L9.length p.aO)/\w.cell? ⟨g,i * 8+5,n_⟩=o_ (s_ p.ax p.ag.length p.aP)/\w.cell? ⟨g,i * 8+6,n_⟩=o_ (s_ p.am p.ae.length p.aG)/\w.cell? ⟨g,i * 8+7,n_⟩=o_ (s_ p.aK p.ai.length p.aV)
def ic {w:w_} {a:Option d_} {l:List af} (h:kp.bU w a l) {i:Nat} {p:af} (hp:l[i]? =o_ p): ∃ g,a=o_ ⟨g,0,n_⟩/\af.In w g i p/\af.At w p:=by
 obtain ⟨g,e,hc⟩:=h.at hp;exact ⟨g,e,⟨hc 0 _ rfl,hc 1 _ rfl,hc 2 _ rfl,hc 3 _ rfl,hc 4 _ rfl,hc 5 _ rfl,hc 6 _ rfl,hc 7 _ rfl⟩,U2 (h.2 p (KA hp))⟩
structure eA where
 bj:Int
 major:Int
 fn:List pA
 vb:Option d_
 Te:Nat
 parts:List af
 qn:Option d_
 sa:Nat
 eC:List eQ
 qi:Option d_
 tC:Nat
abbrev eA.row (k:eA):Array v_:= #[i_ j_ k.bj,i_ j_ k.major,s_ k.vb k.fn.length k.Te,s_ k.qn k.parts.length k.sa,s_ k.qi k.eC.length k.tC]
structure eA.At (w:w_) (k:eA):Prop where
 fn:jq.bU w k.vb k.fn
 parts:kp.bU w k.qn k.parts
 eC:hM.bU w k.qi k.eC
def eA.At.below {w w':w_} {k:eA} (h:eA.At w k) (hb:B_ w.heap.size w w'):eA.At w' k:=⟨h.fn.below hb,h.parts.below hb,h.eC.below hb⟩
structure kd where
 bj:Int
 major:Int
 fn:List pA
 parts:List aE
 eC:List eQ
def eA.pure (k:eA):kd:=⟨k.bj,k.major,k.fn,k.parts.map (·.pure),k.eC⟩
def Tk (W:w_) (X:Nat) (k:eA):Prop:=W.heap[X]? =o_ (c_ k.row 30)
def Tk.cells {W:w_} {X:Nat} {k:eA} (h:Tk W X k):W.cell? ⟨X,0,n_⟩=o_ (i_ j_ k.bj)/\W.cell? ⟨X,1,n_⟩=o_ (i_ j_ k.major)/\W.cell? ⟨X,2,n_⟩=o_ (s_ k.vb k.fn.length k.Te)/\W.cell? ⟨X,3,n_⟩=o_ (s_ k.qn k.parts.length k.sa)/\W.cell? ⟨X,4,n_⟩=o_ (s_ k.qi k.eC.length k.tC):=by
 unfold Tk at h;simp [World.cell?,h]
structure dr (w:w_) (X:Nat) (k:eA) (W:w_):Prop where
 box:Tk W X k
 MT:eA.At W k
 low:B_ w.heap.size w W
def dr.below {w W W2:w_} {X:Nat} {k:eA} (h:dr w X k W) (hb:B_ W.heap.size W W2):dr w X k W2:=
 ⟨(hb.block _ (J2.1 h.box).1).trans h.box,h.MT.below hb,h.low.trans (hb.mono h.low.size)⟩
def dr.first {w:w_} {k:eA} (h:eA.At w k):dr w w.heap.size k (w.alloc (c_ k.row 30)):=
 ⟨Kj _ _,h.below ((Kp _ _).alloc (Ki _) _),(Kp _ _).alloc (Ki _) _⟩
structure gG (r:Nat) (w w':w_):Prop where
 os:w'.os=w.os
 tape:w'.tape=w.tape
 output:w'.output=w.output
 size:w.heap.size<=w'.heap.size
 block: ∀ k,k < w.heap.size->k≠r->w'.heap[k]? =w.heap[k]?
def gG.refl (r:Nat) (w:w_):gG r w w:=⟨rfl,rfl,rfl,Ki _,fun _ _ _=>rfl⟩
def gG.trans {r:Nat} {a b c:w_} (h:gG r a b) (k:gG r b c):gG r a c:=
 ⟨k.os.trans h.os,k.tape.trans h.tape,k.output.trans h.output,LG h.size k.size,fun i hi hr=>(k.block i (Kn hi h.size) hr).trans (h.block i hi hr)⟩
def gG.drew {r:Nat} {a w:w_} (h:gG r a w):gG r a w.drew:=⟨h.os,h.tape,h.output,h.size,h.block⟩
def gG.setCell {r:Nat} {a w:w_} (h:gG r a w) (i:Nat) (v:v_):gG r a (w.setCell ⟨r,i,n_⟩ v):=
 h.trans ⟨rfl,rfl,rfl,by simp,fun k _ hr=>K6 _ _ _ _ hr⟩
def gG.dI {r:Nat} {w w':w_} (h:B_ w.heap.size w w'):gG r w w':=⟨h.os,h.tape,h.output,h.size,fun k hk _=>h.block k hk⟩
def gG.below {r B:Nat} {w w':w_} (h:gG r w w') (hr:B<=r) (hB:B<=w.heap.size):B_ B w w':=⟨h.os,h.tape,h.output,h.size,fun k hk=>h.block k zw zw⟩
def gG.alloc {r:Nat} {a w:w_} (h:gG r a w) (o:Obj):gG r a (w.alloc o):=h.trans (gG.dI ((Kp _ _).alloc (Ki _) _))
def gG.cell {r:Nat} {w w':w_} (h:gG r w w') {p:d_} (hp:p.block < w.heap.size) (hr:p.block≠r):w'.cell? p=w.cell? p:=J1 (w:=w) (h.block p.block hp hr)
def Buf (w:w_) (r:Nat) (a:Option d_) (len:Nat):Prop:=len=0\/ ∃ b off,a=o_ ⟨b,off,n_⟩/\b≠r/\ ∀ i,i < len-> ∃ v:Int,w.cell? ⟨b,off+i,n_⟩=o_ (i_ .u8 v)/\0<=v/\v<=255
def Rd (r:Nat) (a:Option d_) (len cap:Nat) (w:w_):Prop:=(∃ p:Nat,p<=len/\w.heap[r]? =o_ (c_ #[s_ a len cap,i_ j_ p] 142))/\Buf w r a len
def Buf.but {w w':w_} {r:Nat} {a:Option d_} {len:Nat} (h:Buf w r a len) (hb:gG r w w'):Buf w' r a len:=by
 rcases h with h | ⟨b,off,e,hr,hc⟩
 .exact .inl h
 .refine .inr ⟨b,off,e,hr,fun i hi=> ?_⟩
  obtain ⟨v,hv,hv'⟩:=hc i hi;exact ⟨v,(hb.cell (p:=⟨b,off+i,n_⟩) (Le hv) hr).trans hv,hv'⟩
def Rd.lt {r:Nat} {a:Option d_} {len cap:Nat} {w:w_} (h:Rd r a len cap w):r < w.heap.size:=by
 obtain ⟨⟨p,_,hp⟩,_⟩:=h;exact (J2.1 hp).1
def Rd.below {r:Nat} {a:Option d_} {len cap:Nat} {w w':w_} (h:Rd r a len cap w) (hb:B_ w.heap.size w w'):Rd r a len cap w':=by
 have hl:=h.lt;obtain ⟨⟨p,h1,hp⟩,hbuf⟩:=h;exact ⟨⟨p,h1,(hb.block _ hl).trans hp⟩,hbuf.but (gG.dI hb)⟩
def A9 (r:Nat) (a:Option d_) (len cap:Nat) (w:w_) (hl:len<=1048576) (h:Rd r a len cap w):
  k_ J3 96 #[p_ (o_ ⟨r,0,n_⟩)] w fun e w'=> ∃ v:Int,0<=v/\v<=255/\e=r_ (i_ j_ v)/\gG r w w'/\Rd r a len cap w':=by
 obtain ⟨⟨p,hp,hr⟩,hb⟩:=h;have c0:w.cell? ⟨r,0,n_⟩=o_ (s_ a len cap):=by simp [World.cell?,hr]
 have c1:w.cell? ⟨r,1,n_⟩=o_ (i_ j_ p):=by simp [World.cell?,hr]
 have f1:w.frozen? ⟨r,1,n_⟩=false:=Ko w _ _ _ _ hr;have HR:bN (w.heap[r]? =o_ (c_ #[s_ a len cap,i_ j_ p] 142)):=hr;have HB:bN (Buf w r a len):=hb;clear hr hb;by_cases hlt:len<=p
 .have hd:decide ((len:Int)<=(p:Int))=true:=by simp; omega
  go_enter func96,ntmps96
  go_wp2
  go_region_held3 (fun w'=>w'.cell? ⟨r,0,n_⟩=o_ (s_ a len cap)/\w'.cell? ⟨r,1,n_⟩=o_ (i_ j_ p)) (go_keep) (fail)
  go_wp2;go_ret;exact ⟨0,zw,zw,rfl,(gG.refl _ _).drew,⟨p,hp,HR.I⟩,HB.I.but (gG.refl _ _).drew⟩
 .have hd:decide ((len:Int)<=(p:Int))=false:=by simp; omega
  rcases HB.I with h0 | ⟨b,off,rfl,hbr,hc⟩
  .omega
  obtain ⟨v,hv,v0,v1⟩:=hc p zw;have xc:=Le hv;have hpw:IntKind.i64.wrap (p:Int)=(p:Int):=by rw [K8]; omega
  have hbr': ¬ r=b:=fun e=>hbr e.symm
  have i0:(0:Int)<=(p:Int):=zw
  have i1:(p:Int) < (len:Int):=zw
  clear hc
  go_enter func96,ntmps96
  go_wp2
  go_region_held3 (fun w'=>w'.cell? ⟨r,0,n_⟩=o_ (s_ (o_ ⟨b,off,n_⟩) len cap)/\w'.cell? ⟨r,1,n_⟩=o_ (i_ j_ p)) (go_keep) (fail)
  go_wp2;have k0:(w.setCell ⟨r,1,n_⟩ (i_ j_ ((p:Int)+1))).cell? ⟨r,0,n_⟩=o_ (s_ (o_ ⟨b,off,n_⟩) len cap):=by rw [World.cell?_setCell_other _ _ _ _ zy]; exact c0
  have k1:(w.setCell ⟨r,1,n_⟩ (i_ j_ ((p:Int)+1))).cell? ⟨r,1,n_⟩=o_ (i_ j_ ((p:Int)+1)):=World.cell?_setCell_same' _ _ _ (by rw [c1]; rfl);have k2:(w.setCell ⟨r,1,n_⟩ (i_ j_ ((p:Int)+1))).cell? ⟨b,off+p,n_⟩=o_ (i_ .u8 v):=by rw [World.cell?_setCell_other _ _ _ _ (by intro h; have:=congrArg Addr.block h; simp at this; omega)]; exact hv
  have k3:(w.setCell ⟨r,1,n_⟩ (i_ j_ ((p:Int)+1))).heap[r]? =o_ (c_ #[s_ (o_ ⟨b,off,n_⟩) len cap,i_ j_ ((p:Int)+1)] 142):=K7 _ _ _ _ _ _ HR.I;have HK:bN ((w.setCell ⟨r,1,n_⟩ (i_ j_ ((p:Int)+1))).heap[r]? =o_ (c_ #[s_ (o_ ⟨b,off,n_⟩) len cap,i_ j_ ((p:Int)+1)] 142)/\gG r w (w.setCell ⟨r,1,n_⟩ (i_ j_ ((p:Int)+1)))):=⟨k3,(gG.refl _ _).setCell _ _⟩
  clear k3 c0 c1 hv f1;generalize w.setCell ⟨r,1,n_⟩ (i_ j_ ((p:Int)+1))=W1 at *
  go_region_held3 (fun w'=>w'.cell? ⟨r,0,n_⟩=o_ (s_ (o_ ⟨b,off,n_⟩) len cap)/\w'.cell? ⟨r,1,n_⟩=o_ (i_ j_ ((p:Int)+1))/\w'.cell? ⟨b,off+p,n_⟩=o_ (i_ .u8 v)) (go_keep) (fail)
  have hvw:IntKind.i64.wrap v=v:=by rw [K8]; omega
  go_wp2;go_ret;exact ⟨v,v0,v1,ck (by first | rfl | exact hvw),HK.I.2.drew.drew,⟨p+1,zw,by have:=HK.I.1; exact this⟩,HB.I.but HK.I.2.drew.drew⟩
def dh (r:Nat) (a:Option d_) (len cap:Nat) (n:Int) (w:w_) (hl:len<=1048576) (n0:2<=n) (n1:n<=256) (h:Rd r a len cap w):
  k_ J3 60 #[p_ (o_ ⟨r,0,n_⟩),i_ j_ n] w fun e w'=> ∃ v:Int,0<=v/\v < n/\e=r_ (i_ j_ v)/\gG r w w'/\Rd r a len cap w':=by
 have k1: ¬ n<=1:=zw
 have k2: ¬ n=0:=zw
 go_enter func60,ntmps60
 go_wp2_with fail;refine (A9 r a len cap _ hl h).mono ?_;rintro e w1 ⟨v,v0,v1,rfl,hb,hr⟩;have m0:0<=v % n:=Int.emod_nonneg _ k2;have m1:v % n < n:=Int.emod_lt_of_pos _ zw;go_wp2;go_ret;exact ⟨v % n,m0,m1,rfl,hb,hr⟩
def jt (r:Nat) (a:Option d_) (len cap:Nat) (n:Int) (w:w_) (hl:len<=1048576) (n0:2<=n) (n1:n<=256) (h:Rd r a len cap w):
  k_ J3 58 #[p_ (o_ ⟨r,0,n_⟩),i_ j_ n] w fun e w'=> ∃ v:Bool,e=r_ (b_ v)/\gG r w w'/\Rd r a len cap w':=by
 go_enter func58,ntmps58
 go_wp2_with fail;refine (dh r a len cap n _ hl n0 n1 h).mono ?_;rintro e w1 ⟨v,v0,v1,rfl,hb,hr⟩;go_wp2;go_ret;exact ⟨_,rfl,hb,hr⟩
def BO (r:Nat) (a:Option d_) (len cap:Nat) (w:w_) (hl:len<=1048576) (h:Rd r a len cap w):
  k_ J3 97 #[p_ (o_ ⟨r,0,n_⟩)] w fun e w'=> ∃ v:Int,e=r_ (i_ .u64 v)/\gG r w w'/\Rd r a len cap w':=by
 go_enter func97,ntmps97
 go_wp2
 go_loopw [3,4] (fun x i wr=> ∃ (k:Nat) (y:Int),k<=8/\i=i_ j_ k/\x=i_ .u64 y/\gG r w wr/\Rd r a len cap wr) (fun _ i _=>8 - (intOf i).toNat)
 case atStart=>exact ⟨0,0,zw,rfl,rfl,gG.refl _ _,h⟩
 case round=>
  obtain ⟨k,y,hk,rfl,rfl,hb,hr⟩:=hrel;by_cases hlt:k < 8
  .go_wp2_with fail
   refine (A9 r a len cap _ hl hr).mono ?_;rintro e w1 ⟨v,v0,v1,rfl,hb1,hr1⟩;go_wp2;go_roundw
   case rel=>exact ⟨k+1,_,zw,by go_num,rfl,hb.trans hb1,hr1⟩
   case measure=>simp [intOf]; omega
  .go_wp2
   go_ret;exact ⟨y,rfl,hb,hr⟩
def FM (r:Nat) (a:Option d_) (len cap:Nat) (low high:Int) (w:w_) (hl:len<=1048576) (l0: -1<=low) (l1:low<=high) (l2:high<=1000000000) (h:Rd r a len cap w):
  k_ J3 61 #[p_ (o_ ⟨r,0,n_⟩),i_ j_ low,i_ j_ high] w fun e w'=> ∃ v:Int,e=r_ (i_ j_ v)/\gG r w w'/\Rd r a len cap w':=by
 have k1: ¬ high < low:=zw
 have k2: ¬ high - low+1=0:=zw
 go_enter func61,ntmps61
 go_wp2_with fail;refine (dh r a len cap 8 _ hl zw zw h).mono ?_;rintro e w1 ⟨v,v0,v1,rfl,hb,hr⟩;by_cases e0:v=0
 .have b0:(v == 0)=true:=by simp [e0]
  go_wp2;go_ret;exact ⟨_,rfl,hb,hr⟩
 have b0:(v == 0)=false:=by simp [e0]
 by_cases e1:v=1
 .have b1:(v == 1)=true:=by simp [e1]
  go_wp2;go_ret;exact ⟨_,rfl,hb,hr⟩
 have b1:(v == 1)=false:=by simp [e1]
 go_wp2_with fail;refine (BO r a len cap _ hl hr).mono ?_;exact Zbq
def pj (r:Nat) (a:Option d_) (len cap:Nat) (low high:Int) (w:w_) (hl:len<=1048576) (l0: -1<=low) (l1:low<=high) (l2:high<=1000000000) (h:Rd r a len cap w):
  k_ J3 33 #[p_ (o_ ⟨r,0,n_⟩),i_ j_ low,i_ j_ high] w fun e w'=> ∃ v:Int,e=r_ (i_ j_ v)/\gG r w w'/\Rd r a len cap w':=by
 go_enter func33,ntmps33
 go_wp2_with fail;refine (jt r a len cap 24 _ hl zw zw h).mono ?_;rintro e w1 ⟨v,rfl,hb,hr⟩;cases v with
 | true=>
  have rl:=hr.lt;go_wp2_with fail;refine (dh r a len cap 4 _ hl zw zw (hr.below ((Kp _ _).alloc (Ki _) _))).mono ?_;rintro e w2 ⟨v,v0,v1,rfl,hb2,hr2⟩;obtain ⟨n,rfl⟩:=QK v0;have hn:n < 4:=zw
  have hy: ∃ y,w2.cell? ⟨w1.heap.size,n,n_⟩=o_ (i_ j_ y):=by
   rw [hb2.cell (p:=⟨w1.heap.size,n,n_⟩) zy ZbZ,World.cell?_alloc_new]
   match n,hn with
   | 0,_=>exact ⟨_,rfl⟩
   | 1,_=>exact ⟨_,rfl⟩
   | 2,_=>exact ⟨_,rfl⟩
   | 3,_=>exact ⟨_,rfl⟩
  obtain ⟨y,hy⟩:=hy;have HB:bN (gG r w w2):=(hb.alloc _).trans hb2;clear hb2 hb;go_wp2;go_ret;exact ⟨y,rfl,HB.I,hr2⟩
 | false=>
  go_wp2_with fail;refine (FM r a len cap low high _ hl l0 l1 l2 hr).mono ?_;exact Zbq
def AJ {w w':w_} {bi e size n r:Nat} {v:v_} {xs:List v_} (h:w.ownsRow bi e size v n xs) (hb:gG r w w') (hr:r < bi):w'.ownsRow bi e size v n xs:=by
 obtain ⟨h1,h2⟩:=h;refine ⟨h1,?_⟩;rcases h2 with h2 | ⟨g,cap,cur,hv,hg,hh,rest⟩
 .exact .inl h2
 .exact .inr ⟨g,cap,cur,hv,hg,(hb.block g (J2.1 hh).1 zw).trans hh,rest⟩
def gG.grown {r:Nat} {a w w':w_} {row:Option Nat} (h:gG r a w) (hg:w.grownBy w' row) (hr: ∀ k,row=o_ k->a.heap.size<=k):gG r a w':=
 ⟨hg.os.trans h.os,hg.tape.trans h.tape,hg.output.trans h.output,LG h.size hg.size,fun k hk hkr=>
  (hg.block k (Kn hk h.size) (fun e=>by have:=hr k e.symm; omega)).trans (h.block k hk hkr)⟩
def gG.alc {r:Nat} {w w':w_} (h:gG r w.drew w'):gG r w w':=⟨h.os,h.tape,h.output,h.size,h.block⟩
def gG.sF {r:Nat} {a w:w_} (h:gG r a w) (b i:Nat) (v:v_) (hb:a.heap.size<=b):gG r a (w.setCell ⟨b,i,n_⟩ v):=
 ⟨h.os,h.tape,h.output,by simpa using h.size,fun k hk hr=>(K6 _ _ _ _ ZbZ).trans (h.block k hk hr)⟩
def Bytes (w:w_) (a:Option d_) (len:Nat):Prop:=len=0\/ ∃ b off,a=o_ ⟨b,off,n_⟩/\ ∀ i,i < len-> ∃ v:Int,w.cell? ⟨b,off+i,n_⟩=o_ (i_ .u8 v)/\0<=v/\v<=255
def Bytes.below {w w':w_} {a:Option d_} {len:Nat} (h:Bytes w a len) (hb:B_ w.heap.size w w'):Bytes w' a len:=by
 rcases h with h | ⟨b,off,e,hc⟩
 .exact .inl h
 .refine .inr ⟨b,off,e,fun i hi=> ?_⟩
  obtain ⟨v,hv,hv'⟩:=hc i hi;exact ⟨v,(J1 (w:=w) (hb.block b (Le hv))).trans hv,hv'⟩
def Bytes.buf {w:w_} {a:Option d_} {len:Nat} (h:Bytes w a len):Buf w w.heap.size a len:=by
 rcases h with h | ⟨b,off,e,hc⟩
 .exact .inl h
 .rcases Nat.eq_zero_or_pos len with h0 | h0
  .exact .inl h0
  .refine .inr ⟨b,off,e,?_,hc⟩
   obtain ⟨v,hv,_⟩:=hc 0 h0
   have:=Le hv
   simp at this; omega
def Gj (a:Option d_) (len cap:Nat) (w:w_) (hb:Bytes w a len):
  k_ J3 31 #[s_ a len cap] w fun e w'=>e=r_ (p_ (o_ ⟨w.heap.size,0,n_⟩))/\B_ w.heap.size w w'/\Rd w.heap.size a len cap w'/\gG w.heap.size w w':=by
 go_enter func31,ntmps31
 go_wp2;go_ret;exact ⟨rfl,(Kp _ _).alloc (Ki _) _,⟨⟨0,zw,Kj w _⟩,hb.buf.but ((gG.refl _ _).alloc _)⟩,(gG.refl _ _).alloc _⟩
def xG {r:Nat} {W w2:w_} {xs:Array v_} {t:T_} {n:Nat} (hb:gG r (W.alloc (c_ xs t)) w2) (hr:r < W.heap.size):w2.cell? ⟨W.heap.size,n,n_⟩=xs[n]? :=by
 have hrow:w2.heap[W.heap.size]? =o_ (c_ xs t):=(hb.block _ zy zw).trans (Kj _ _);rw [K5 _ _ _ _ _ _ hrow]
def ajJ (r:Nat) (a:Option d_) (len cap:Nat) (w:w_) (hl:len<=1048576) (h:Rd r a len cap w):
  k_ J3 168 #[p_ (o_ ⟨r,0,n_⟩)] w fun e w'=> ∃ v:Int,e=r_ (i_ j_ v)/\gG r w w'/\Rd r a len cap w':=by
 have rl:=h.lt
 go_enter func168,ntmps168
 go_wp2_with fail;refine (dh r a len cap 5 _ hl zw zw (h.below ((Kp _ _).alloc (Ki _) _))).mono ?_;rintro e w2 ⟨v,v0,v1,rfl,hb2,hr2⟩;obtain ⟨n,rfl⟩:=QK v0;have hn:n < 5:=zw
 have hy: ∃ y,w2.cell? ⟨w.heap.size,n,n_⟩=o_ (i_ j_ y):=by
  rw [xG hb2 rl]
  match n,hn with
  | 0,_=>exact ⟨_,rfl⟩
  | 1,_=>exact ⟨_,rfl⟩
  | 2,_=>exact ⟨_,rfl⟩
  | 3,_=>exact ⟨_,rfl⟩
  | 4,_=>exact ⟨_,rfl⟩
 obtain ⟨y,hy⟩:=hy;have HB:bN (gG r w w2):=((gG.refl _ _).alloc _).trans hb2;clear hb2;go_wp2;go_ret;exact ⟨y,rfl,HB.I,hr2⟩
def B0 (r:Nat) (a:Option d_) (len cap:Nat) (w:w_) (hl:len<=1048576) (h:Rd r a len cap w):
  k_ J3 169 #[p_ (o_ ⟨r,0,n_⟩)] w fun e w'=> ∃ t:ByteArray,t.size<=3/\e=r_ (t_ t)/\gG r w w'/\Rd r a len cap w':=by
 have rl:=h.lt
 go_enter func169,ntmps169
 go_wp2_with fail;refine (dh r a len cap 5 _ hl zw zw (h.below ((Kp _ _).alloc (Ki _) _))).mono ?_;rintro e w2 ⟨v,v0,v1,rfl,hb2,hr2⟩;obtain ⟨n,rfl⟩:=QK v0;have hn:n < 5:=zw
 have hy: ∃ y:ByteArray,y.size<=3/\w2.cell? ⟨w.heap.size,n,n_⟩=o_ (t_ y):=by
  rw [xG hb2 rl]
  match n,hn with
  | 0,_=>exact ⟨_,by decide,rfl⟩
  | 1,_=>exact ⟨_,by decide,rfl⟩
  | 2,_=>exact ⟨_,by decide,rfl⟩
  | 3,_=>exact ⟨_,by decide,rfl⟩
  | 4,_=>exact ⟨_,by decide,rfl⟩
 obtain ⟨y,hys,hy⟩:=hy;have HB:bN (gG r w w2):=((gG.refl _ _).alloc _).trans hb2;clear hb2;go_wp2;go_ret;exact ⟨y,hys,rfl,HB.I,hr2⟩
structure fO (r:Nat) (a:Option d_) (len cap:Nat) (w x:w_) (q:Nat) (k n m:Int) (t:ByteArray):Prop where
 res:x.heap[w.heap.size]? =o_ (c_ #[i_ j_ 0,i_ j_ 0,i_ j_ 0,t_ ⟨#[]⟩] 217)
 op:x.heap[q]? =o_ (c_ #[i_ j_ k,i_ j_ n,i_ j_ m,t_ t] 217)
 but:gG r w x
 rd:Rd r a len cap x
 st:Rd r a len cap w
 lt:w.heap.size < q
def fO.rl {r:Nat} {a:Option d_} {len cap:Nat} {w x:w_} {q:Nat} {k n m:Int} {t:ByteArray} (h:fO r a len cap w x q k n m t):r < w.heap.size:=h.st.lt
def fO.move {r:Nat} {a:Option d_} {len cap:Nat} {w x y:w_} {q:Nat} {k n m:Int} {t:ByteArray} (h:fO r a len cap w x q k n m t) (hb:gG r x y) (hr:Rd r a len cap y):fO r a len cap w y q k n m t:=by
 have h1:=h.rl;have h2:=h.lt;exact ⟨(hb.block _ (J2.1 h.res).1 zw).trans h.res,(hb.block _ (J2.1 h.op).1 zw).trans h.op,h.but.trans hb,hr,h.st,h2⟩
def vp {r:Nat} {a:Option d_} {len cap:Nat} {w x:w_} (h:Rd r a len cap x) (st:Rd r a len cap w) (hb:gG r w x) {b i:Nat} (hbl:w.heap.size<=b) (v:v_):Rd r a len cap (x.setCell ⟨b,i,n_⟩ v):=by
 obtain ⟨p,hp,hrow⟩:=h.1;have hr:=st.lt;exact ⟨⟨p,hp,(K6 _ _ _ _ ZbZ).trans hrow⟩,st.2.but (hb.sF b i v hbl)⟩
def fO.set {r:Nat} {a:Option d_} {len cap:Nat} {w x:w_} {q:Nat} {k n m k' n' m':Int} {t t':ByteArray} (h:fO r a len cap w x q k n m t) {i:Nat} {v:v_} (e:(#[i_ j_ k,i_ j_ n,i_ j_ m,t_ t] :Array v_).setIfInBounds i v= #[i_ j_ k',i_ j_ n',i_ j_ m',t_ t']):fO r a len cap w (x.setCell ⟨q,i,n_⟩ v) q k' n' m' t':=by
 have h2:=h.lt;refine ⟨(K6 _ _ _ _ ZbZ).trans h.res,?_,h.but.sF q i v zw,vp h.rd h.st h.but zw v,h.st,h2⟩;have h0:=K7 _ q i _ _ v h.op;rw [e] at h0;exact h0
def fO.ends {r:Nat} {a:Option d_} {len cap:Nat} {w x:w_} {q:Nat} {k n m k' n' m':Int} {t t':ByteArray} (h:fO r a len cap w x q k n m t):
  ((((x.setCell ⟨w.heap.size,0,n_⟩ (i_ j_ k')).setCell ⟨w.heap.size,1,n_⟩ (i_ j_ n')).setCell ⟨w.heap.size,2,n_⟩ (i_ j_ m')).setCell ⟨w.heap.size,3,n_⟩ (t_ t')).heap[w.heap.size]? =o_ (c_ #[i_ j_ k',i_ j_ n',i_ j_ m',t_ t'] 217)/\
  gG r w ((((x.setCell ⟨w.heap.size,0,n_⟩ (i_ j_ k')).setCell ⟨w.heap.size,1,n_⟩ (i_ j_ n')).setCell ⟨w.heap.size,2,n_⟩ (i_ j_ m')).setCell ⟨w.heap.size,3,n_⟩ (t_ t'))/\
  Rd r a len cap ((((x.setCell ⟨w.heap.size,0,n_⟩ (i_ j_ k')).setCell ⟨w.heap.size,1,n_⟩ (i_ j_ n')).setCell ⟨w.heap.size,2,n_⟩ (i_ j_ m')).setCell ⟨w.heap.size,3,n_⟩ (t_ t')):=by
 have b0:=h.but.sF w.heap.size 0 (i_ j_ k') (Ki _);have b1:=b0.sF w.heap.size 1 (i_ j_ n') (Ki _);have b2:=b1.sF w.heap.size 2 (i_ j_ m') (Ki _);have b3:=b2.sF w.heap.size 3 (t_ t') (Ki _);have d0:=vp h.rd h.st h.but (i:=0) (Ki _) (i_ j_ k');have d1:=vp d0 h.st b0 (i:=1) (Ki _) (i_ j_ n');have d2:=vp d1 h.st b1 (i:=2) (Ki _) (i_ j_ m');have d3:=vp d2 h.st b2 (i:=3) (Ki _) (t_ t');refine ⟨?_,b3,d3⟩;have e0:=K7 _ w.heap.size 0 _ _ (i_ j_ k') h.res;have e1:=K7 _ w.heap.size 1 _ _ (i_ j_ n') e0;have e2:=K7 _ w.heap.size 2 _ _ (i_ j_ m') e1;have e3:=K7 _ w.heap.size 3 _ _ (t_ t') e2;simpa using e3
def fO.cells {r:Nat} {a:Option d_} {len cap:Nat} {w x:w_} {q:Nat} {k n m:Int} {t:ByteArray} (h:fO r a len cap w x q k n m t):
  (x.cell? ⟨q,0,n_⟩=o_ (i_ j_ k)/\x.cell? ⟨q,1,n_⟩=o_ (i_ j_ n)/\x.cell? ⟨q,2,n_⟩=o_ (i_ j_ m)/\x.cell? ⟨q,3,n_⟩=o_ (t_ t))/\
  (x.cell? ⟨w.heap.size,0,n_⟩=o_ (i_ j_ 0)/\x.cell? ⟨w.heap.size,1,n_⟩=o_ (i_ j_ 0)/\x.cell? ⟨w.heap.size,2,n_⟩=o_ (i_ j_ 0)/\x.cell? ⟨w.heap.size,3,n_⟩=o_ (t_ ⟨#[]⟩))/\
  (∀ i,x.frozen? ⟨q,i,n_⟩=false)/\(∀ i,x.frozen? ⟨w.heap.size,i,n_⟩=false):=by
 refine ⟨⟨?_,?_,?_,?_⟩,⟨?_,?_,?_,?_⟩,fun i=>Ko _ _ _ _ _ h.op,fun i=>Ko _ _ _ _ _ h.res⟩
 .rw [K5 _ _ _ _ _ _ h.op]; rfl
 .rw [K5 _ _ _ _ _ _ h.op]; rfl
 .rw [K5 _ _ _ _ _ _ h.op]; rfl
 .rw [K5 _ _ _ _ _ _ h.op]; rfl
 .rw [K5 _ _ _ _ _ _ h.res]; rfl
 .rw [K5 _ _ _ _ _ _ h.res]; rfl
 .rw [K5 _ _ _ _ _ _ h.res]; rfl
 .rw [K5 _ _ _ _ _ _ h.res]; rfl
def jy:(Tryz.prog.info? 217).map (·.size)=o_ 4:=by kernel_rfl
def op_any (r:Nat) (a:Option d_) (len cap:Nat) (w:w_) (hl:len<=1048576) (h:Rd r a len cap w):
  k_ J3 136 #[p_ (o_ ⟨r,0,n_⟩)] w fun e w'=> ∃ o:dN,o.2.2.2.size<=3/\e=r_ (a_ #[i_ j_ o.1,i_ j_ o.2.1,i_ j_ o.2.2.1,t_ o.2.2.2])/\gG r w w'/\Rd r a len cap w':=by
 have HS:bN (Rd r a len cap w):=h;have rl:=h.lt;clear h
 go_enter func136,ntmps136
 go_wp2_with fail;refine (dh r a len cap 17 _ hl zw zw (HS.I.below ((Kp _ _).alloc (Ki _) _))).mono ?_;rintro e w1 ⟨v,v0,v1,rfl,hb1,hr1⟩;have hres:w1.heap[w.heap.size]? =o_ (c_ #[i_ j_ 0,i_ j_ 0,i_ j_ 0,t_ ⟨#[]⟩] 217):=(hb1.block _ zy zw).trans (Kj _ _);have pG:bN (w1.heap[w.heap.size]? =o_ (c_ #[i_ j_ 0,i_ j_ 0,i_ j_ 0,t_ ⟨#[]⟩] 217)/\gG r w w1):=⟨hres,((gG.refl _ _).alloc _).trans hb1⟩
 clear hb1 hres;obtain ⟨k,hk⟩: ∃ k:Int,k=1+v:=⟨_,rfl⟩
 have e1:IntKind.i64.wrap (1+v)=k:=by rw [K8,hk]; omega
 have k0:1<=k:=zw
 have k1:k<=17:=zw
 have e2:IntKind.i64.wrap k=k:=by rw [K8]; omega
 have e3:wrap64 k=k:=by unfold wrap64; omega
 clear hk;go_wp2_with fail;refine (dh r a len cap 2 _ hl zw zw hr1).mono ?_;rintro e w2 ⟨u,u0,u1,rfl,hb2,hr2⟩;obtain ⟨n,hn⟩: ∃ n:Int,n=1+u:=⟨_,rfl⟩
 have f1:IntKind.i64.wrap (1+u)=n:=by rw [K8,hn]; omega
 have f2:IntKind.i64.wrap n=n:=by rw [K8]; omega
 have f3:wrap64 n=n:=by unfold wrap64; omega
 have H2:bN (∀ n:Int,fO r a len cap w (w2.alloc (c_ #[i_ j_ k,i_ j_ n,i_ j_ 0,t_ ⟨#[]⟩] 217)) w2.heap.size k n 0 ⟨#[]⟩):=fun n=>by
  have l1:w.heap.size < w1.heap.size:=(J2.1 pG.I.1).1;have r2:w2.heap[w.heap.size]? =o_ (c_ #[i_ j_ 0,i_ j_ 0,i_ j_ 0,t_ ⟨#[]⟩] 217):=(hb2.block _ l1 zw).trans pG.I.1;have l2:w.heap.size < w2.heap.size:=(J2.1 r2).1;exact ⟨(PU l2).trans r2,Kj _ _,(pG.I.2.trans hb2).alloc _,hr2.below ((Kp _ _).alloc (Ki _) _),HS.I,l2⟩
 clear hn hb2 hr2 hr1 pG;obtain ⟨q,hq⟩: ∃ q,w2.heap.size=q:=⟨_,rfl⟩
 rw [hq] at H2;by_cases c1:k=1\/k=2
 .rcases c1 with rfl | rfl
  all_goals
   go_wp2_with fail;rw [hq] at *;have H3:=H2.I n;generalize w2.alloc (c_ #[i_ j_ _,i_ j_ n,i_ j_ 0,t_ ⟨#[]⟩] 217)=X at *;have uL:bN (fO r a len cap w X q _ n 0 ⟨#[]⟩):=H3;clear H3;refine (dh r a len cap 5 _ hl zw zw uL.I.rd).mono ?_;rintro e w3 ⟨b,b0,b1,rfl,hb3,hr3⟩;obtain ⟨n2,hn2⟩: ∃ n2:Int,n2=1+b:=⟨_,rfl⟩
   have g1:IntKind.i64.wrap (1+b)=n2:=by rw [K8,hn2]; omega
   have g2:IntKind.i64.wrap n2=n2:=by rw [K8]; omega
   have g3:wrap64 n2=n2:=by unfold wrap64; omega
   have H4:bN (fO r a len cap w w3 q _ n 0 ⟨#[]⟩):=uL.I.move hb3 hr3;have H5:bN (fO r a len cap w (w3.setCell ⟨q,1,n_⟩ (i_ j_ n2)) q _ n2 0 ⟨#[]⟩):=H4.I.set rfl;clear hn2 hb3 hr3 uL;obtain ⟨⟨o0,o1,o2,o3⟩,⟨r0,r1,r2,r3⟩,fD,fB⟩:=H4.I.cells;have q0:=fD 0;have q1:=fD 1;have q2:=fD 2;have q3:=fD 3;have y0:=fB 0;have y1:=fB 1;have y2:=fB 2;have y3:=fB 3;have hlt:=H4.I.lt;have hne:w.heap.size≠q:=zw
   have mD:q≠w.heap.size:=zw
   clear fD fB;go_wp2_with fail;clear o0 o1 o2 o3 r0 r1 r2 r3 q0 q1 q2 q3 y0 y1 y2 y3 hlt hne mD;refine (jt r a len cap 60 _ hl zw zw H5.I.rd).mono ?_;rintro e w8 ⟨bb,rfl,Aq,BM⟩;have H8:bN (fO r a len cap w w8 q _ n2 0 ⟨#[]⟩):=H5.I.move Aq BM;clear Aq BM H5;cases bb with
   | false=>
    obtain ⟨⟨o0,o1,o2,o3⟩,⟨r0,r1,r2,r3⟩,fD,fB⟩:=H8.I.cells;have q0:=fD 0;have q1:=fD 1;have q2:=fD 2;have q3:=fD 3;have y0:=fB 0;have y1:=fB 1;have y2:=fB 2;have y3:=fB 3;have hlt:=H8.I.lt;have hne:w.heap.size≠q:=zw
    have mD:q≠w.heap.size:=zw
    clear fD fB;go_wp2;refine KT (K9 results136 _ _ w.heap.size 217 _ (0,0) _ (by rfl) H8.I.ends.1 underlying217 rfl jy) rfl ?_;exact ⟨(_,n2,0,⟨#[]⟩),Ky _,rfl,H8.I.ends.2.1,H8.I.ends.2.2⟩
   | true=>
    go_wp2_with fail;refine (pj r a len cap (-1) 9 _ hl zw zw zw H8.I.rd).mono ?_;rintro e w9 ⟨VX,rfl,kN,zT⟩;have YU:bN (fO r a len cap w w9 q _ n2 0 ⟨#[]⟩):=H8.I.move kN zT;have HA:bN (fO r a len cap w (w9.setCell ⟨q,2,n_⟩ (i_ j_ VX)) q _ n2 VX ⟨#[]⟩):=YU.I.set rfl;clear kN zT H8;obtain ⟨⟨o0,o1,o2,o3⟩,⟨r0,r1,r2,r3⟩,fD,fB⟩:=YU.I.cells;have q0:=fD 0;have q1:=fD 1;have q2:=fD 2;have q3:=fD 3;have y0:=fB 0;have y1:=fB 1;have y2:=fB 2;have y3:=fB 3;have hlt:=YU.I.lt;have hne:w.heap.size≠q:=zw
    have mD:q≠w.heap.size:=zw
    clear fD fB;go_wp2;refine KT (K9 results136 _ _ w.heap.size 217 _ (0,0) _ (by rfl) HA.I.ends.1 underlying217 rfl jy) rfl ?_;exact ⟨(_,n2,VX,⟨#[]⟩),Ky _,rfl,HA.I.ends.2.1,HA.I.ends.2.2⟩
 by_cases c2:k=3\/k=7\/k=9\/k=12
 .rcases c2 with rfl | rfl | rfl | rfl
  all_goals
   go_wp2_with fail;rw [hq] at *;have H3:=H2.I n;generalize w2.alloc (c_ #[i_ j_ _,i_ j_ n,i_ j_ 0,t_ ⟨#[]⟩] 217)=X at *;have uL:bN (fO r a len cap w X q _ n 0 ⟨#[]⟩):=H3;clear H3;refine (ajJ r a len cap _ hl uL.I.rd).mono ?_;rintro e w3 ⟨b,rfl,hb3,hr3⟩;have H4:bN (fO r a len cap w w3 q _ n 0 ⟨#[]⟩):=uL.I.move hb3 hr3;have H5:bN (fO r a len cap w (w3.setCell ⟨q,2,n_⟩ (i_ j_ b)) q _ n b ⟨#[]⟩):=H4.I.set rfl;clear hb3 hr3 uL;obtain ⟨⟨o0,o1,o2,o3⟩,⟨r0,r1,r2,r3⟩,fD,fB⟩:=H4.I.cells;have q0:=fD 0;have q1:=fD 1;have q2:=fD 2;have q3:=fD 3;have y0:=fB 0;have y1:=fB 1;have y2:=fB 2;have y3:=fB 3;have hlt:=H4.I.lt;have hne:w.heap.size≠q:=zw
   have mD:q≠w.heap.size:=zw
   clear fD fB;go_wp2_with fail;clear o0 o1 o2 o3 r0 r1 r2 r3 q0 q1 q2 q3 y0 y1 y2 y3 hlt hne mD;refine (jt r a len cap 60 _ hl zw zw H5.I.rd).mono ?_;rintro e w8 ⟨bb,rfl,Aq,BM⟩;have H8:bN (fO r a len cap w w8 q _ n b ⟨#[]⟩):=H5.I.move Aq BM;clear Aq BM H5;cases bb with
   | false=>
    obtain ⟨⟨o0,o1,o2,o3⟩,⟨r0,r1,r2,r3⟩,fD,fB⟩:=H8.I.cells;have q0:=fD 0;have q1:=fD 1;have q2:=fD 2;have q3:=fD 3;have y0:=fB 0;have y1:=fB 1;have y2:=fB 2;have y3:=fB 3;have hlt:=H8.I.lt;have hne:w.heap.size≠q:=zw
    have mD:q≠w.heap.size:=zw
    clear fD fB;go_wp2;refine KT (K9 results136 _ _ w.heap.size 217 _ (0,0) _ (by rfl) H8.I.ends.1 underlying217 rfl jy) rfl ?_;exact ⟨(_,n,b,⟨#[]⟩),Ky _,rfl,H8.I.ends.2.1,H8.I.ends.2.2⟩
   | true=>
    go_wp2_with fail;refine (pj r a len cap (-1) 9 _ hl zw zw zw H8.I.rd).mono ?_;rintro e w9 ⟨VX,rfl,kN,zT⟩;have YU:bN (fO r a len cap w w9 q _ n b ⟨#[]⟩):=H8.I.move kN zT;exact pl
 by_cases c3:k=8
 .subst c3
  go_wp2_with fail;rw [hq] at *;have H3:=H2.I n;generalize w2.alloc (c_ #[i_ j_ _,i_ j_ n,i_ j_ 0,t_ ⟨#[]⟩] 217)=X at *;have uL:bN (fO r a len cap w X q _ n 0 ⟨#[]⟩):=H3;clear H3;refine (ajJ r a len cap _ hl uL.I.rd).mono ?_;rintro e w3 ⟨b,rfl,hb3,hr3⟩;have H4:bN (fO r a len cap w w3 q _ n 0 ⟨#[]⟩):=uL.I.move hb3 hr3;have H5:bN (fO r a len cap w (w3.setCell ⟨q,2,n_⟩ (i_ j_ b)) q _ n b ⟨#[]⟩):=H4.I.set rfl;clear hb3 hr3 uL;obtain ⟨⟨o0,o1,o2,o3⟩,⟨r0,r1,r2,r3⟩,fD,fB⟩:=H4.I.cells;have q0:=fD 0;have q1:=fD 1;have q2:=fD 2;have q3:=fD 3;have y0:=fB 0;have y1:=fB 1;have y2:=fB 2;have y3:=fB 3;have hlt:=H4.I.lt;have hne:w.heap.size≠q:=zw
  have mD:q≠w.heap.size:=zw
  clear fD fB;go_wp2_with fail;clear o0 o1 o2 o3 r0 r1 r2 r3 q0 q1 q2 q3 y0 y1 y2 y3 hlt hne mD;generalize w3.setCell ⟨q,2,n_⟩ (i_ j_ b)=X3 at *;refine (B0 r a len cap _ hl H5.I.rd).mono ?_;rintro e w4 ⟨tx,htx,rfl,hb4,hr4⟩;have H6:bN (fO r a len cap w w4 q _ n b ⟨#[]⟩):=H5.I.move hb4 hr4;have H7:bN (fO r a len cap w (w4.setCell ⟨q,3,n_⟩ (t_ tx)) q _ n b tx):=H6.I.set rfl;clear hb4 hr4 H5;obtain ⟨⟨o0,o1,o2,o3⟩,⟨r0,r1,r2,r3⟩,fD,fB⟩:=H6.I.cells;have q0:=fD 0;have q1:=fD 1;have q2:=fD 2;have q3:=fD 3;have y0:=fB 0;have y1:=fB 1;have y2:=fB 2;have y3:=fB 3;have hlt:=H6.I.lt;have hne:w.heap.size≠q:=zw
  have mD:q≠w.heap.size:=zw
  clear fD fB;go_wp2_with fail;clear o0 o1 o2 o3 r0 r1 r2 r3 q0 q1 q2 q3 y0 y1 y2 y3 hlt hne mD;refine (jt r a len cap 60 _ hl zw zw H7.I.rd).mono ?_;rintro e w8 ⟨bb,rfl,Aq,BM⟩;have H8:bN (fO r a len cap w w8 q _ n b tx):=H7.I.move Aq BM;clear Aq BM H7;cases bb with
  | false=>
   obtain ⟨⟨o0,o1,o2,o3⟩,⟨r0,r1,r2,r3⟩,fD,fB⟩:=H8.I.cells;have q0:=fD 0;have q1:=fD 1;have q2:=fD 2;have q3:=fD 3;have y0:=fB 0;have y1:=fB 1;have y2:=fB 2;have y3:=fB 3;have hlt:=H8.I.lt;have hne:w.heap.size≠q:=zw
   have mD:q≠w.heap.size:=zw
   clear fD fB;go_wp2;refine KT (K9 results136 _ _ w.heap.size 217 _ (0,0) _ (by rfl) H8.I.ends.1 underlying217 rfl jy) rfl ?_;exact ⟨(_,n,b,tx),htx,rfl,H8.I.ends.2.1,H8.I.ends.2.2⟩
  | true=>
   go_wp2_with fail;refine (pj r a len cap (-1) 9 _ hl zw zw zw H8.I.rd).mono ?_;rintro e w9 ⟨VX,rfl,kN,zT⟩;have YU:bN (fO r a len cap w w9 q _ n b tx):=H8.I.move kN zT;exact qr
 by_cases c4:k=10\/k=13
 .rcases c4 with rfl | rfl
  all_goals
   go_wp2_with fail;rw [hq] at *;have H3:=H2.I n;generalize w2.alloc (c_ #[i_ j_ _,i_ j_ n,i_ j_ 0,t_ ⟨#[]⟩] 217)=X at *;have uL:bN (fO r a len cap w X q _ n 0 ⟨#[]⟩):=H3;clear H3;refine (B0 r a len cap _ hl uL.I.rd).mono ?_;rintro e w4 ⟨tx,htx,rfl,hb4,hr4⟩;have H6:bN (fO r a len cap w w4 q _ n 0 ⟨#[]⟩):=uL.I.move hb4 hr4;have H7:bN (fO r a len cap w (w4.setCell ⟨q,3,n_⟩ (t_ tx)) q _ n 0 tx):=H6.I.set rfl;clear hb4 hr4 uL;obtain ⟨⟨o0,o1,o2,o3⟩,⟨r0,r1,r2,r3⟩,fD,fB⟩:=H6.I.cells;have q0:=fD 0;have q1:=fD 1;have q2:=fD 2;have q3:=fD 3;have y0:=fB 0;have y1:=fB 1;have y2:=fB 2;have y3:=fB 3;have hlt:=H6.I.lt;have hne:w.heap.size≠q:=zw
   have mD:q≠w.heap.size:=zw
   clear fD fB;go_wp2_with fail;clear o0 o1 o2 o3 r0 r1 r2 r3 q0 q1 q2 q3 y0 y1 y2 y3 hlt hne mD;refine (jt r a len cap 60 _ hl zw zw H7.I.rd).mono ?_;rintro e w8 ⟨bb,rfl,Aq,BM⟩;have H8:bN (fO r a len cap w w8 q _ n 0 tx):=H7.I.move Aq BM;clear Aq BM H7;cases bb with
   | false=>
    obtain ⟨⟨o0,o1,o2,o3⟩,⟨r0,r1,r2,r3⟩,fD,fB⟩:=H8.I.cells;have q0:=fD 0;have q1:=fD 1;have q2:=fD 2;have q3:=fD 3;have y0:=fB 0;have y1:=fB 1;have y2:=fB 2;have y3:=fB 3;have hlt:=H8.I.lt;have hne:w.heap.size≠q:=zw
    have mD:q≠w.heap.size:=zw
    clear fD fB;go_wp2;refine KT (K9 results136 _ _ w.heap.size 217 _ (0,0) _ (by rfl) H8.I.ends.1 underlying217 rfl jy) rfl ?_;exact ⟨(_,n,0,tx),htx,rfl,H8.I.ends.2.1,H8.I.ends.2.2⟩
   | true=>
    go_wp2_with fail;refine (pj r a len cap (-1) 9 _ hl zw zw zw H8.I.rd).mono ?_;rintro e w9 ⟨VX,rfl,kN,zT⟩;have YU:bN (fO r a len cap w w9 q _ n 0 tx):=H8.I.move kN zT;exact qr
 by_cases c5:k=17
 .subst c5
  go_wp2_with fail;rw [hq] at *;have H3:=H2.I 0;generalize w2.alloc (c_ #[i_ j_ _,i_ j_ 0,i_ j_ 0,t_ ⟨#[]⟩] 217)=X at *;have uL:bN (fO r a len cap w X q _ 0 0 ⟨#[]⟩):=H3;clear H3;refine (jt r a len cap 60 _ hl zw zw uL.I.rd).mono ?_;rintro e w8 ⟨bb,rfl,Aq,BM⟩;have H8:bN (fO r a len cap w w8 q _ 0 0 ⟨#[]⟩):=uL.I.move Aq BM;clear Aq BM uL;cases bb with
  | false=>
   obtain ⟨⟨o0,o1,o2,o3⟩,⟨r0,r1,r2,r3⟩,fD,fB⟩:=H8.I.cells;have q0:=fD 0;have q1:=fD 1;have q2:=fD 2;have q3:=fD 3;have y0:=fB 0;have y1:=fB 1;have y2:=fB 2;have y3:=fB 3;have hlt:=H8.I.lt;have hne:w.heap.size≠q:=zw
   have mD:q≠w.heap.size:=zw
   clear fD fB;go_wp2;refine KT (K9 results136 _ _ w.heap.size 217 _ (0,0) _ (by rfl) H8.I.ends.1 underlying217 rfl jy) rfl ?_;exact ⟨(_,0,0,⟨#[]⟩),Ky _,rfl,H8.I.ends.2.1,H8.I.ends.2.2⟩
  | true=>
   go_wp2_with fail;refine (pj r a len cap (-1) 9 _ hl zw zw zw H8.I.rd).mono ?_;rintro e w9 ⟨VX,rfl,kN,zT⟩;have YU:bN (fO r a len cap w w9 q _ 0 0 ⟨#[]⟩):=H8.I.move kN zT;have HA:bN (fO r a len cap w (w9.setCell ⟨q,2,n_⟩ (i_ j_ VX)) q _ 0 VX ⟨#[]⟩):=YU.I.set rfl;clear kN zT H8;obtain ⟨⟨o0,o1,o2,o3⟩,⟨r0,r1,r2,r3⟩,fD,fB⟩:=YU.I.cells;have q0:=fD 0;have q1:=fD 1;have q2:=fD 2;have q3:=fD 3;have y0:=fB 0;have y1:=fB 1;have y2:=fB 2;have y3:=fB 3;have hlt:=YU.I.lt;have hne:w.heap.size≠q:=zw
   have mD:q≠w.heap.size:=zw
   clear fD fB;go_wp2;refine KT (K9 results136 _ _ w.heap.size 217 _ (0,0) _ (by rfl) HA.I.ends.1 underlying217 rfl jy) rfl ?_;exact ⟨(_,0,VX,⟨#[]⟩),Ky _,rfl,HA.I.ends.2.1,HA.I.ends.2.2⟩
 have d1:(k == 1)=false:=by simp; omega
 have d2:(k == 2)=false:=by simp; omega
 have d3:(k == 3)=false:=by simp; omega
 have d7:(k == 7)=false:=by simp; omega
 have d9:(k == 9)=false:=by simp; omega
 have d12:(k == 12)=false:=by simp; omega
 have d8:(k == 8)=false:=by simp; omega
 have tH:(k == 10)=false:=by simp; omega
 have d13:(k == 13)=false:=by simp; omega
 have d17:(k == 17)=false:=by simp; omega
 clear c1 c2 c3 c4 c5;go_wp2_with fail;rw [hq] at *;have H3:=H2.I n;generalize w2.alloc (c_ #[i_ j_ _,i_ j_ n,i_ j_ 0,t_ ⟨#[]⟩] 217)=X at *;have uL:bN (fO r a len cap w X q _ n 0 ⟨#[]⟩):=H3;clear H3;refine (jt r a len cap 60 _ hl zw zw uL.I.rd).mono ?_;rintro e w8 ⟨bb,rfl,Aq,BM⟩;have H8:bN (fO r a len cap w w8 q _ n 0 ⟨#[]⟩):=uL.I.move Aq BM;clear Aq BM uL;cases bb with
 | false=>
  obtain ⟨⟨o0,o1,o2,o3⟩,⟨r0,r1,r2,r3⟩,fD,fB⟩:=H8.I.cells;have q0:=fD 0;have q1:=fD 1;have q2:=fD 2;have q3:=fD 3;have y0:=fB 0;have y1:=fB 1;have y2:=fB 2;have y3:=fB 3;have hlt:=H8.I.lt;have hne:w.heap.size≠q:=zw
  have mD:q≠w.heap.size:=zw
  clear fD fB;go_wp2;refine KT (K9 results136 _ _ w.heap.size 217 _ (0,0) _ (by rfl) H8.I.ends.1 underlying217 rfl jy) rfl ?_;exact ⟨(_,n,0,⟨#[]⟩),Ky _,rfl,H8.I.ends.2.1,H8.I.ends.2.2⟩
 | true=>
  go_wp2_with fail;refine (pj r a len cap (-1) 9 _ hl zw zw zw H8.I.rd).mono ?_;rintro e w9 ⟨VX,rfl,kN,zT⟩;have YU:bN (fO r a len cap w w9 q _ n 0 ⟨#[]⟩):=H8.I.move kN zT;exact pl
def gO:List dN->List v_
 | [] => []
 | o :: os=> i_ j_ o.1 :: i_ j_ o.2.1 :: i_ j_ o.2.2.1 :: t_ o.2.2.2 :: gO os
def pK: ∀ (os os':List dN),gO (os ++ os')=gO os ++ gO os'
 | [],_=>rfl
 | o :: os,os'=>by simp [gO,pK os os']
def xU: ∀ (os:List dN) (j:Nat),j < os.length * 4->(gO os)[j]? =o_ (xe (Cd os) (Cg os) (Ea os) (Ce os) j)
 | [],j,h=>by simp at h
 | o :: os,j,h=>by
  have hk: ∀ i,Cd (o :: os) (i+1)=Cd os i/\Cg (o :: os) (i+1)=Cg os i/\Ea (o :: os) (i+1)=Ea os i/\Ce (o :: os) (i+1)=Ce os i:=fun i=>by simp [Cd,Cg,Ea,Ce]
  match j,h with
  | 0,_=>simp [gO,xe,Cd]
  | 1,_=>simp [gO,xe,Cg]
  | 2,_=>simp [gO,xe,Ea]
  | 3,_=>simp [gO,xe,Ce]
  | j+4,h=>
   have ih:=xU os j (by simp at h; omega);have e1:(j+4) / 4=j / 4+1:=zw
   have e2:(j+4) % 4=j % 4:=zw
   obtain ⟨h1,h2,h3,h4⟩:=hk (j / 4);simp only [gO,List.getElem?_cons_succ];rw [ih];simp only [xe,e1,e2,h1,h2,h3,h4]
def Fa {w:w_} {bi n:Nat} {v:v_} {os:List dN} (h:w.ownsRow bi 217 4 v n (gO os)) (hn:n=os.length):(v=s_ n_ 0 0/\os.length=0)\/ ∃ g c,v=s_ (o_ ⟨g,0,n_⟩) os.length c/\bi<=g/\y9 w g os/\ ∃ cur:Array v_,w.heap[g]? =o_ (c_ cur 217)/\os.length * 4<=cur.size/\ ∀ j,j < os.length * 4->cur[j]? =o_ (xe (Cd os) (Cg os) (Ea os) (Ce os) j):=by
 subst hn;rcases h.2 with ⟨h1,h2⟩ | ⟨g,cap,cur,h1,h2,h3,h4,h5,h6,h7⟩
 .exact .inl ⟨h1,h2⟩
 .have key: ∀ j,j < os.length * 4->cur[j]? =o_ (xe (Cd os) (Cg os) (Ea os) (Ce os) j):=fun j hj=>by
   rw [<- xU os j hj,<- h7,List.getElem?_take_of_lt zw];simp
  refine .inr ⟨g,cap,h1,h2,⟨(J2.1 h3).1,fun j hj=> ?_⟩,cur,h3,zw,key⟩;rw [K5 _ _ _ _ _ _ h3];exact key j hj
def xh {w:w_} {bi n:Nat} {v:v_} {xs:List v_} (h:w.ownsRow bi 217 4 v (n+1) xs): ∃ g c,v=s_ (o_ ⟨g,0,n_⟩) (n+1) c:=by
 rcases h.2 with ⟨_,h2⟩ | ⟨g,cap,cur,h1,_⟩
 .omega
 .exact ⟨g,cap,h1⟩
def Ii:(Tryz.prog.info? 217).map (fun i=>(i.zero,i.size,i.bytes))=o_ (o_ (a_ #[i_ j_ 0,i_ j_ 0,i_ j_ 0,t_ ⟨#[]⟩]),4,40):=by kernel_rfl
def nt (os:List dN) (o:dN):(os ++ [o]).length=os.length+1:=by simp
structure mM (r:Nat) (a:Option d_) (len cap:Nat) (w x:w_) (g c:Nat) (os:List dN):Prop where
 own:x.ownsRow w.heap.size 217 4 (s_ (o_ ⟨g,0,n_⟩) os.length c) os.length (gO os)
 but:gG r w x
 rd:Rd r a len cap x
 st:Rd r a len cap w
 sz: ∀ o∈os,o.2.2.2.size<=3
def mM.form {r:Nat} {a:Option d_} {len cap:Nat} {w x:w_} {g c:Nat} {os:List dN} (h:mM r a len cap w x g c os):w.heap.size<=g/\y9 x g os:=by
 rcases Fa h.own rfl with ⟨h1,_⟩ | ⟨g',c',h1,h2,h3,_⟩
 .cases h1
 .cases h1
  exact ⟨h2,h3⟩
def mM.move {r:Nat} {a:Option d_} {len cap:Nat} {w x y:w_} {g c:Nat} {os:List dN} (h:mM r a len cap w x g c os) (hb:gG r x y) (hr:Rd r a len cap y):mM r a len cap w y g c os:=
 ⟨AJ h.own hb h.st.lt,h.but.trans hb,hr,h.st,h.sz⟩
def mM.alloc {r:Nat} {a:Option d_} {len cap:Nat} {w x:w_} {g c:Nat} {os:List dN} (h:mM r a len cap w x g c os) (o:Obj):mM r a len cap w (x.alloc o) g c os:=
 h.move ((gG.refl _ _).alloc _) (h.rd.below ((Kp _ _).alloc (Ki _) _))
def mM.next {r:Nat} {a:Option d_} {len cap:Nat} {w x w5:w_} {g c g' c':Nat} {os:List dN} {o:dN} (h:mM r a len cap w x g c os) (hz:o.2.2.2.size<=3) (hg:x.grownBy w5 (o_ g))
  (hown:w5.ownsRow w.heap.size 217 4 (s_ (o_ ⟨g',0,n_⟩) (os.length+1) c') (os.length+1) (gO os ++ [i_ j_ o.1,i_ j_ o.2.1,i_ j_ o.2.2.1,t_ o.2.2.2])):mM r a len cap w w5 g' c' (os ++ [o]):=by
 have hf:=h.form.1;have hb:gG r w w5:=h.but.grown hg (fun k hk=>by cases hk; exact hf);obtain ⟨p,hp,hrow⟩:=h.rd.1;have hrl:=h.st.lt;have hrow5:w5.heap[r]? =o_ (c_ #[s_ a len cap,i_ j_ p] 142):=(hg.block r (J2.1 hrow).1 (fun e=>by cases e; omega)).trans hrow;refine ⟨?_,hb,⟨⟨p,hp,hrow5⟩,h.st.2.but hb⟩,h.st,fun q hq=> ?_⟩
 .rw [pK,nt]
  simpa [gO] using hown
 .rcases Kg.1 hq with hq | hq
  .exact h.sz q hq
  .rw [KB] at hq; subst hq; exact hz
def uz (r:Nat) (a:Option d_) (len cap:Nat) (w:w_) (hl:len<=1048576) (h:Rd r a len cap w):
  k_ J3 93 #[p_ (o_ ⟨r,0,n_⟩)] w fun e w'=> ∃ (g c:Nat) (os:List dN),e=r_ (s_ (o_ ⟨g,0,n_⟩) os.length c)/\os.length<=6/\mM r a len cap w w' g c os:=by
 obtain ⟨i0,hi,e0⟩:=Kw.1 Ii;simp only [Kx] at e0;have HI:bN (Tryz.prog.info? 217=o_ i0/\i0.zero=o_ (a_ #[i_ j_ 0,i_ j_ 0,i_ j_ 0,t_ ⟨#[]⟩])/\i0.size=4/\i0.bytes=40):=⟨hi,e0⟩
 clear hi e0;have HA:bN (mM r a len cap w (w.alloc (c_ #[] 217)) w.heap.size 0 []):=
  ⟨⟨rfl,.inr ⟨w.heap.size,0,#[],rfl,Ki _,Kj _ _,Ki _,Ky _,rfl,rfl⟩⟩,(gG.refl _ _).alloc _,h.below ((Kp _ _).alloc (Ki _) _),h,fun o ho=>by simp at ho⟩
 clear h
 go_enter func93,ntmps93
 go_wp2_with fail;generalize w.alloc (c_ #[] 217)=W0 at *;generalize hgs:w.heap.size=g0 at *;refine (dh r a len cap 5 _ hl zw zw HA.I.rd).mono ?_;rintro e w1 ⟨v,v0,v1,rfl,hb1,hr1⟩;have H1:bN (mM r a len cap w w1 g0 0 []):=HA.I.move hb1 hr1;have e1:IntKind.i64.wrap (1+v)=1+v:=by rw [K8]; omega
 clear hb1 hr1 HA;go_wp2_with fail
 go_loopw [3,4] (fun v i wr=> ∃ (g c:Nat) (os:List dN) (m:Int),v=s_ (o_ ⟨g,0,n_⟩) os.length c/\i=i_ j_ m/\0<=m/\(os.length:Int)+m<=5/\bN (mM r a len cap w wr g c os)) (fun _ i _=>(intOf i).toNat)
 case atStart=>exact ⟨g0,0,[],1+v,rfl,rfl,zw,by simp; omega,H1⟩
 case round=>
  clear H1;obtain ⟨g,c,os,m,rfl,rfl,hm0,hm5,H⟩:=hrel;by_cases hm:0 < m
  .go_wp2_with fail
   refine (op_any r a len cap _ hl H.I.rd).mono ?_;rintro e w4 ⟨o,hoz,rfl,hb4,hr4⟩;have H4:bN (mM r a len cap w w4 g c os):=H.I.move hb4 hr4;have HX:bN (mM r a len cap w (w4.alloc (c_ #[i_ j_ o.1,i_ j_ o.2.1,i_ j_ o.2.2.1,t_ o.2.2.2] 217)) g c os):=H4.I.alloc _;have e2:IntKind.i64.wrap (m - 1)=m - 1:=by rw [K8]; omega
   have hw4:=H4.I.but.size;clear hb4 hr4 H;go_wp2_with (at_builtin; refine KD _ rfl _ _ 123 rfl w.heap.size 217 i0 (a_ #[i_ j_ 0,i_ j_ 0,i_ j_ 0,t_ ⟨#[]⟩]) 4 40 underlying123 HI.I.1 HI.I.2.1 HI.I.2.2.1 HI.I.2.2.2 rfl (by decide) (s_ (o_ ⟨g,0,n_⟩) os.length c) os.length (gO os) rfl HX.I.own ⟨w4.heap.size,0,n_⟩ 1 1 [i_ j_ o.1,i_ j_ o.2.1,i_ j_ o.2.2.1,t_ o.2.2.2] (by rfl) rfl (KE (cs:= #[i_ j_ o.1,i_ j_ o.2.1,i_ j_ o.2.2.1,t_ o.2.2.2]) (t:=217) (fr:=(0,0)) (Kj w4 _)) Zcy Zb9 zw ZbZ ?_; intro v' w5 hown' hgrow hnil jV; obtain ⟨gg,cp,rfl⟩:=xh hown'; have HN:bN (mM r a len cap w w5 gg cp (os ++ [o])):=HX.I.next hoz hgrow hown'; clear hown' hgrow hnil jV HX);go_roundw
   case rel=>exact ⟨gg,cp,os ++ [o],m - 1,by rw [nt],rfl,zw,by rw [nt]; omega,HN⟩
   case measure=>simp [intOf]; omega
  .go_wp2_with fail
   refine (jt r a len cap 3 _ hl zw zw H.I.rd).mono ?_;rintro e w3 ⟨bb,rfl,hb3,hr3⟩;have H3:bN (mM r a len cap w w3 g c os):=H.I.move hb3 hr3;clear hb3 hr3 H;cases bb with
   | false=>
    go_wp2;go_ret;exact ⟨g,c,os,rfl,zw,H3.I⟩
   | true=>
    have HX:bN (mM r a len cap w (w3.alloc (c_ #[i_ j_ 17,i_ j_ 0,i_ j_ 0,t_ ⟨#[]⟩] 217)) g c os):=H3.I.alloc _;have hw4:=H3.I.but.size;go_wp2_with (at_builtin; refine KD _ rfl _ _ 123 rfl w.heap.size 217 i0 (a_ #[i_ j_ 0,i_ j_ 0,i_ j_ 0,t_ ⟨#[]⟩]) 4 40 underlying123 HI.I.1 HI.I.2.1 HI.I.2.2.1 HI.I.2.2.2 rfl (by decide) (s_ (o_ ⟨g,0,n_⟩) os.length c) os.length (gO os) rfl HX.I.own ⟨w3.heap.size,0,n_⟩ 1 1 [i_ j_ 17,i_ j_ 0,i_ j_ 0,t_ ⟨#[]⟩] (by rfl) rfl (KE (cs:= #[i_ j_ 17,i_ j_ 0,i_ j_ 0,t_ ⟨#[]⟩]) (t:=217) (fr:=(0,0)) (Kj w3 _)) Zcy Zb9 zw ZbZ ?_; intro v' w5 hown' hgrow hnil jV; obtain ⟨gg,cp,rfl⟩:=xh hown'; have HN:bN (mM r a len cap w w5 gg cp (os ++ [(17,0,0,⟨#[]⟩)])):=HX.I.next (Ky 3) hgrow hown'; clear hown' hgrow hnil jV HX);go_ret;exact ⟨gg,cp,os ++ [(17,0,0,⟨#[]⟩)],by rw [nt]; rfl,by rw [nt]; omega,HN.I⟩
end
section
open Go.RowKit
attribute [local go_sem ↓] Go.wp_at_zero Go.wp_at_succ
def ak6 : (Tryz.prog.info? 62).map (fun i => (i.zero, i.size, i.bytes)) = o_ (o_ (a_ #[i_ j_ 0,i_ j_ 0,i_ j_ 0]), 3, 24) := by kernel_rfl
def akE (xs : List v_) : Prop := ∀ u ∈ xs, ∃ z : Int, u =i_ j_ z /\ -1000 <= z /\ z <= 1000
def aj9 {w : w_} {bi e size n b : Nat} {v : v_} {xs : List v_} (h : w.ownsRow bi e size v n xs) (hb : b < bi) : o_ b ≠ v.ownBlock := by
  rcases h.2 with ⟨hv, _⟩ | ⟨g, cap, cur, hv, hg, _⟩
  . subst hv; simp [Value.ownBlock]
  . subst hv; simp [Value.ownBlock]; omega
structure Made (r : Nat) (a : Option d_) (len cap : Nat) (w wr : w_) (mj : Int) (v : v_) (k : Nat) (xs : List v_) : Prop where
  I : wr.heap[w.heap.size]? = o_ (c_ #[i_ j_ 0,s_ n_ 0 0] 26)
  fr : wr.heap[w.heap.size + 1]? = o_ (c_ #[i_ j_ mj, v] 26)
  own : wr.ownsRow (w.heap.size + 2) 62 3 v k xs
  small : akE xs
  but : gG r w wr
  rd : Rd r a len cap wr
  size : w.heap.size + 2 <= wr.heap.size
def Made.move {r : Nat} {a : Option d_} {len cap : Nat} {w wr w' : w_} {mj : Int} {v : v_} {k : Nat} {xs : List v_} (m : Made r a len cap w wr mj v k xs) (hr : r < w.heap.size) (hb : gG r wr w') (rd : Rd r a len cap w') : Made r a len cap w w' mj v k xs := by
  have s1 := m.size;have s2 := hb.size;exact ⟨(hb.block _ zw zw).trans m.I, (hb.block _ zw zw).trans m.fr, AJ m.own hb zw, m.small, m.but.trans hb, rd, by omega⟩
def Made.cell {r : Nat} {a : Option d_} {len cap : Nat} {w wr : w_} {mj : Int} {v : v_} {k : Nat} {xs : List v_} (m : Made r a len cap w wr mj v k xs) : wr.cell? ⟨w.heap.size + 1, 1, n_⟩ = o_ v := by
  have := m.fr;simp [World.cell?, this]
def Made.akK {r : Nat} {a : Option d_} {len cap : Nat} {w wr w5 : w_} {mj : Int} {v : v_} {k : Nat} {xs : List v_} {o : Obj} (m : Made r a len cap w wr mj v k xs) (hg : (wr.alloc o).grownBy w5 v.ownBlock) : w5.heap[w.heap.size + 1]? = o_ (c_ #[i_ j_ mj, v] 26) := by
  have s1 := m.size;exact ((hg.block _ ZbZ (aj9 m.own zw)).trans (PU zw)).trans m.fr
def Made.push {r : Nat} {a : Option d_} {len cap : Nat} {w wr w5 : w_} {mj : Int} {v v' : v_} {k : Nat} {xs : List v_} {o : Obj} {x y z : Int} (m : Made r a len cap w wr mj v k xs) (h : Rd r a len cap w) (hg : (wr.alloc o).grownBy w5 v.ownBlock)
    (ho : w5.ownsRow (w.heap.size + 2) 62 3 v' (k + 1) (xs ++ [i_ j_ x,i_ j_ y,i_ j_ z])) (hx : -1000 <= x /\ x <= 1000) (hy : -1000 <= y /\ y <= 1000) (hz : -1000 <= z /\ z <= 1000) :
    Made r a len cap w (w5.setCell ⟨w.heap.size + 1, 1, n_⟩ v') mj v' (k + 1) (xs ++ [i_ j_ x,i_ j_ y,i_ j_ z]) := by
  have s1 := m.size;have s2 := hg.size;rw [RR] at s2;have hr := h.lt;have b1 : gG r w w5 := (m.but.alloc o).grown hg (fun q hq => by
    rcases Nat.lt_or_ge q (w.heap.size + 2) with hlt | hge
    . exact absurd hq.symm (aj9 m.own hlt)
    . omega)
  have b2 : gG r w (w5.setCell ⟨w.heap.size + 1, 1, n_⟩ v') := b1.sF _ _ _ zw;have k1 : w5.heap[r]? = wr.heap[r]? := (hg.block _ ZbZ (aj9 m.own zw)).trans (PU zw);have k0 : w5.heap[w.heap.size]? = wr.heap[w.heap.size]? := (hg.block _ ZbZ (aj9 m.own zw)).trans (PU zw);refine ⟨?_, ?_, ?_, ?_, b2, ⟨?_, h.2.but b2⟩, by simp; omega⟩
  . exact ((K6 _ _ _ _ zy).trans k0).trans m.I
  . exact K7 _ _ _ _ _ _ (m.akK hg)
  . exact AJ (r := w.heap.size + 1) ho ((gG.refl _ _).setCell _ _) zw
  . intro u hu
    rcases Kg.1 hu with hu | hu
    . exact m.small u hu
    . simp at hu
      rcases hu with rfl | rfl | rfl
      . exact ⟨_, rfl, hx⟩
      . exact ⟨_, rfl, hy⟩
      . exact ⟨_, rfl, hz⟩
  . obtain ⟨p, hp, e⟩ := m.rd.1
    exact ⟨p, hp, ((K6 _ _ _ _ ZbZ).trans k1).trans e⟩
def Made.major {r : Nat} {a : Option d_} {len cap : Nat} {w wr : w_} {mj : Int} {v : v_} {k : Nat} {xs : List v_} (m : Made r a len cap w wr mj v k xs) (h : Rd r a len cap w) (y : Int) : Made r a len cap w (wr.setCell ⟨w.heap.size + 1, 0, n_⟩ (i_ j_ y)) y v k xs := by
  have hr := h.lt;have s1 := m.size;have b2 : gG r w (wr.setCell ⟨w.heap.size + 1, 0, n_⟩ (i_ j_ y)) := m.but.sF _ _ _ zw;refine ⟨(K6 _ _ _ _ zy).trans m.I, K7 _ _ _ _ _ _ m.fr, AJ (r := w.heap.size + 1) m.own ((gG.refl _ _).setCell _ _) zw, m.small, b2, ⟨?_, h.2.but b2⟩, by simp; omega⟩;obtain ⟨p, hp, e⟩ := m.rd.1;exact ⟨p, hp, (K6 _ _ _ _ ZbZ).trans e⟩
def Made.ends {r : Nat} {a : Option d_} {len cap : Nat} {w wr : w_} {mj : Int} {v : v_} {k : Nat} {xs : List v_} (m : Made r a len cap w wr mj v k xs) (h : Rd r a len cap w) (x y : v_) :
    (((wr.setCell ⟨w.heap.size, 0, n_⟩ x).setCell ⟨w.heap.size, 1, n_⟩ y).ownsRow w.heap.size 62 3 v k xs /\ gG r w ((wr.setCell ⟨w.heap.size, 0, n_⟩ x).setCell ⟨w.heap.size, 1, n_⟩ y) /\ Rd r a len cap ((wr.setCell ⟨w.heap.size, 0, n_⟩ x).setCell ⟨w.heap.size, 1, n_⟩ y)) /\
      ((wr.setCell ⟨w.heap.size, 0, n_⟩ x).setCell ⟨w.heap.size, 1, n_⟩ y).heap[w.heap.size]? = o_ (c_ #[x, y] 26) := by
  have hr := h.lt;have e : ∀ b, b ≠ w.heap.size -> ((wr.setCell ⟨w.heap.size, 0, n_⟩ x).setCell ⟨w.heap.size, 1, n_⟩ y).heap[b]? = wr.heap[b]? := fun b hb => (K6 _ _ _ _ (by simpa using hb)).trans (K6 _ _ _ _ (by simpa using hb))
  have b2 : gG r w ((wr.setCell ⟨w.heap.size, 0, n_⟩ x).setCell ⟨w.heap.size, 1, n_⟩ y) := (m.but.sF _ _ _ zw).sF _ _ _ zw;refine ⟨⟨⟨m.own.1, ?_⟩, b2, ?_, h.2.but b2⟩, K7 _ _ _ _ _ _ (K7 _ _ _ _ _ _ m.I)⟩
  . rcases m.own.2 with h2 | ⟨g, c, cur, hv, hg, hh, h5⟩
    . exact .inl h2
    . exact .inr ⟨g, c, cur, hv, by omega, (e g zw).trans hh, h5⟩
  . obtain ⟨p, hp, e1⟩ := m.rd.1
    exact ⟨p, hp, (e r zw).trans e1⟩
def akj : (Tryz.prog.info? 26).map (·.size) = o_ 2 := by kernel_rfl
def aln (r : Nat) (a : Option d_) (len cap : Nat) (w : w_) (x i : v_) (wr : w_) : Prop :=
  ∃ (k m : Nat) (at' : Int) (v : v_) (xs : List v_), x =i_ j_ at' /\ i =i_ j_ m /\ 1 <= k + m /\ k + m <= 4 /\ 0 <= at' /\ at' <= 6 * k /\ Made r a len cap w wr 0 v k xs
def apH (r : Nat) (a : Option d_) (len cap : Nat) (w : w_) (hl : len <= 1048576) (h : Rd r a len cap w) :
    k_ J3 56 #[p_ (o_ ⟨r, 0, n_⟩)] w fun e w' => ∃ (major : Int) (g n c : Nat) (xs : List v_), e =r_ (a_ #[i_ j_ major,s_ (o_ ⟨g, 0, n_⟩) n c]) /\ (0 < n /\ n <= 4) /\ akE xs /\ w'.ownsRow w.heap.size 62 3 (s_ (o_ ⟨g, 0, n_⟩) n c) n xs /\ gG r w w' /\ Rd r a len cap w' := by
  have rl := h.lt;obtain ⟨i0, hi, e⟩ := Kw.1 ak6;simp only [Kx] at e;obtain ⟨hz0, hz1, hz2⟩ := e;have HI : bN (Tryz.prog.info? 62 = o_ i0 /\ i0.zero = o_ (a_ #[i_ j_ 0,i_ j_ 0,i_ j_ 0]) /\ i0.size = 3 /\ i0.bytes = 24) := ⟨hi, hz0, hz1, hz2⟩
  clear hi hz0 hz1 hz2
  go_enter func56, ntmps56
  go_wp2_with fail;have h2 : Rd r a len cap ((w.alloc (c_ #[i_ j_ 0,s_ n_ 0 0] 26)).alloc (c_ #[i_ j_ 0,s_ n_ 0 0] 26)) := (h.below ((Kp _ _).alloc (Ki _) _)).below ((Kp _ _).alloc (Ki _) _);have b2 : gG r w ((w.alloc (c_ #[i_ j_ 0,s_ n_ 0 0] 26)).alloc (c_ #[i_ j_ 0,s_ n_ 0 0] 26)) := ((gG.refl _ _).alloc _).alloc _;have x0 : ((w.alloc (c_ #[i_ j_ 0,s_ n_ 0 0] 26)).alloc (c_ #[i_ j_ 0,s_ n_ 0 0] 26)).heap[w.heap.size]? = o_ (c_ #[i_ j_ 0,s_ n_ 0 0] 26) := (((Kp _ _).alloc (Ki _) _).block _ zy).trans (Kj w _);have x1 : ((w.alloc (c_ #[i_ j_ 0,s_ n_ 0 0] 26)).alloc (c_ #[i_ j_ 0,s_ n_ 0 0] 26)).heap[w.heap.size + 1]? = o_ (c_ #[i_ j_ 0,s_ n_ 0 0] 26) := by have := Kj (w.alloc (c_ #[i_ j_ 0,s_ n_ 0 0] 26)) (c_ #[i_ j_ 0,s_ n_ 0 0] 26); simpa using this
  have x2 : ((w.alloc (c_ #[i_ j_ 0,s_ n_ 0 0] 26)).alloc (c_ #[i_ j_ 0,s_ n_ 0 0] 26)).heap.size = w.heap.size + 2 := by simp
  have HX : bN (Rd r a len cap ((w.alloc (c_ #[i_ j_ 0,s_ n_ 0 0] 26)).alloc (c_ #[i_ j_ 0,s_ n_ 0 0] 26)) /\ gG r w ((w.alloc (c_ #[i_ j_ 0,s_ n_ 0 0] 26)).alloc (c_ #[i_ j_ 0,s_ n_ 0 0] 26)) /\ ((w.alloc (c_ #[i_ j_ 0,s_ n_ 0 0] 26)).alloc (c_ #[i_ j_ 0,s_ n_ 0 0] 26)).heap[w.heap.size]? = o_ (c_ #[i_ j_ 0,s_ n_ 0 0] 26) /\ ((w.alloc (c_ #[i_ j_ 0,s_ n_ 0 0] 26)).alloc (c_ #[i_ j_ 0,s_ n_ 0 0] 26)).heap[w.heap.size + 1]? = o_ (c_ #[i_ j_ 0,s_ n_ 0 0] 26) /\ ((w.alloc (c_ #[i_ j_ 0,s_ n_ 0 0] 26)).alloc (c_ #[i_ j_ 0,s_ n_ 0 0] 26)).heap.size = w.heap.size + 2) := ⟨h2, b2, x0, x1, x2⟩
  clear h2 b2 x0 x1 x2;generalize (w.alloc (c_ #[i_ j_ 0,s_ n_ 0 0] 26)).alloc (c_ #[i_ j_ 0,s_ n_ 0 0] 26) = W0 at *;refine (dh r a len cap 4 W0 hl zw zw HX.I.1).mono ?_;rintro e w1 ⟨c, c0, c1, rfl, hb1, hr1⟩;have HY : bN (Rd r a len cap w1 /\ gG r w w1 /\ w1.heap[w.heap.size]? = o_ (c_ #[i_ j_ 0,s_ n_ 0 0] 26) /\ w1.heap[w.heap.size + 1]? = o_ (c_ #[i_ j_ 0,s_ n_ 0 0] 26) /\ w.heap.size + 2 <= w1.heap.size) := by
    obtain ⟨h2, b2, x0, x1, x2⟩ := HX.I;have := hb1.size;exact ⟨hr1, b2.trans hb1, (hb1.block _ zw zw).trans x0, (hb1.block _ zw zw).trans x1, by omega⟩
  clear HX hb1 hr1;go_wp2_with fail
  go_loopw [4, 5] (fun x i wr => aln r a len cap w x i wr) (fun _ i _ => (intOf i).toNat)
  case atStart =>
    obtain ⟨y1, y2, y3, anX, amp⟩ := HY.I;exact ⟨0, (c + 1).toNat, 0, _, [], rfl, by go_num, by omega, by omega, by omega, by omega, ⟨y3, anX, ⟨by simp, .inl ⟨rfl, rfl⟩⟩, by simp [akE], y2, y1, amp⟩⟩
  case round =>
    obtain ⟨k, m, at', v, xs, rfl, rfl, km, km', at0, at1, hM⟩ := hrel;have HM : bN (Made r a len cap w wr 0 v k xs) := hM;clear hM;by_cases hm : 0 < m
    . have hm' : (0 : Int) < (m : Int) := by omega
      go_wp2_with fail;refine (dh r a len cap 3 wr hl zw zw HM.I.rd).mono ?_;rintro e w2 ⟨d, d0, d1, rfl, hb2, hr2⟩;go_wp2_with fail;refine (dh r a len cap 4 w2 hl zw zw hr2).mono ?_;rintro e w3 ⟨l, l0, l1, rfl, hb3, hr3⟩;go_wp2_with fail;have HM3 : bN (Made r a len cap w w3 0 v k xs) := (HM.I.move rl hb2 hr2).move rl hb3 hr3;clear HM hb2 hr2 hb3;have c3 : w3.cell? ⟨w.heap.size + 1, 1, n_⟩ = o_ v := HM3.I.cell;have n3 := World.new_ne w3 _ c3
      go_region_law
        ((first
          | (go_simp
             go_at_call 60
             refine (dh r a len cap 3 _ hl zw zw ?_).mono ?_;exact hr3;rintro e w4 ⟨p, p0, p1, rfl, hb4, hr4⟩;have HM4 : bN (Made r a len cap w w4 0 v k xs) := HM3.I.move rl hb4.alc hr4;have c4 : w4.cell? ⟨w.heap.size + 1, 1, n_⟩ = o_ v := HM4.I.cell;have n4 := World.new_ne w4 _ c4;have s4 := HM4.I.size;have lt4 : w.heap.size + 1 < w4.heap.size := by omega
             have hpw : IntKind.i64.wrap (1 + p) = 1 + p := by rw [K8]; omega
             clear hb4 hr4)
          | (refine step_append_lies _ (by rfl) _ _ _ (by rfl) (w.heap.size + 2) 62 i0 _ 3 24 underlying24 HI.I.1 HI.I.2.1 HI.I.2.2.1 HI.I.2.2.2 rfl zw v k xs (by rfl) (by first | exact HM4.I.own.alloc _ | exact (HM4.I.own.alloc _).drew | exact (HM4.I.own.drew.alloc _).drew | exact HM4.I.own.drew.alloc _)
              ⟨w4.heap.size, 0, n_⟩ 1 1 [i_ j_ (at' + d),i_ j_ (1 + l),i_ j_ (1 + p)] (by rfl) (by rfl) (KE (cs := #[i_ j_ (at' + d),i_ j_ (1 + l),i_ j_ (1 + p)]) (t := 62) (fr := (0, 0)) (Kj w4 _)) Zcy
              zw (by simp only [maxLen]; omega) zw ZbZ (w4.heap.size + 1) zy ?_
             intro gg cp w5 oM hgrow hat hlt;have f5 := HM4.I.akK hgrow;have HP : bN _ := HM4.I.push h hgrow oM zw zw zw;have c5 : w5.cell? ⟨w.heap.size + 1, 1, n_⟩ = o_ v := by simp [World.cell?, f5]
             have z5 : w5.frozen? ⟨w.heap.size + 1, 1, n_⟩ = false := Ko w5 _ _ _ _ f5;clear oM hgrow hat f5)))
      all_goals
        have hnw : IntKind.i64.wrap (at' + d + (1 + l)) = at' + d + (1 + l) := by rw [K8]; omega
        go_wp2;go_roundw
        case rel => exact ⟨k + 1, m - 1, _, _, _, rfl, by go_num, by omega, by omega, by omega, by omega, HP.I⟩
        case measure => simp [intOf]; omega
    . have hk : 0 < k := by omega
      obtain ⟨g, cp, rfl, hg0, CT⟩ := HM.I.own.form hk;go_wp2_with fail;refine (dh r a len cap 3 wr hl zw zw HM.I.rd).mono ?_;rintro e w2 ⟨d, d0, d1, rfl, hb2, hr2⟩;have HM2 : bN (Made r a len cap w w2 0 (s_ (o_ ⟨g, 0, n_⟩) k cp) k xs) := HM.I.move rl hb2 hr2;have HM2' : bN (Made r a len cap w (w2.setCell ⟨w.heap.size + 1, 0, n_⟩ (i_ j_ (at' + d))) (at' + d) (s_ (o_ ⟨g, 0, n_⟩) k cp) k xs) := HM2.I.major h _;clear HM hb2 hr2;have f2 := HM2.I.fr;have c2 : w2.cell? ⟨w.heap.size + 1, 0, n_⟩ = o_ (i_ j_ 0) := by simp [World.cell?, f2]
      have z2 : w2.frozen? ⟨w.heap.size + 1, 0, n_⟩ = false := Ko w2 _ _ _ _ f2;clear f2 HM2;have hnw : IntKind.i64.wrap (at' + d) = at' + d := by rw [K8]; omega
      go_wp2_with fail;generalize w2.setCell ⟨w.heap.size + 1, 0, n_⟩ (i_ j_ (at' + d)) = W2 at *;refine (jt r a len cap 30 W2 hl zw zw HM2'.I.rd).mono ?_;rintro e w3 ⟨q, rfl, hb3, hr3⟩;have HM3 : bN (Made r a len cap w w3 (at' + d) (s_ (o_ ⟨g, 0, n_⟩) k cp) k xs) := HM2'.I.move rl hb3 hr3;clear HM2' hb3 hr3;cases q with
      | true =>
        go_wp2_with fail;refine (pj r a len cap 1 1000 w3 hl zw zw zw HM3.I.rd).mono ?_;rintro e w4 ⟨y, rfl, hb4, hr4⟩;have HM4 : bN (Made r a len cap w w4 (at' + d) (s_ (o_ ⟨g, 0, n_⟩) k cp) k xs) := HM3.I.move rl hb4 hr4;have HM5 : bN (Made r a len cap w (w4.setCell ⟨w.heap.size + 1, 0, n_⟩ (i_ j_ y)) y (s_ (o_ ⟨g, 0, n_⟩) k cp) k xs) := HM4.I.major h _;clear HM3 hb4 hr4;have f4 := HM4.I.fr;have c4 : w4.cell? ⟨w.heap.size + 1, 0, n_⟩ = o_ (i_ j_ (at' + d)) := by simp [World.cell?, f4]
        have z4 : w4.frozen? ⟨w.heap.size + 1, 0, n_⟩ = false := Ko w4 _ _ _ _ f4;clear f4 HM4;have f5 := HM5.I.fr;have g5 := HM5.I.I;have s5 := HM5.I.size;have c50 : (w4.setCell ⟨w.heap.size + 1, 0, n_⟩ (i_ j_ y)).cell? ⟨w.heap.size + 1, 0, n_⟩ = o_ (i_ j_ y) := by simp [World.cell?, f5]
        have c51 : (w4.setCell ⟨w.heap.size + 1, 0, n_⟩ (i_ j_ y)).cell? ⟨w.heap.size + 1, 1, n_⟩ = o_ (s_ (o_ ⟨g, 0, n_⟩) k cp) := by simp [World.cell?, f5]
        have d50 : (w4.setCell ⟨w.heap.size + 1, 0, n_⟩ (i_ j_ y)).cell? ⟨w.heap.size, 0, n_⟩ = o_ (i_ j_ 0) := by simp [World.cell?, g5]
        have d51 : (w4.setCell ⟨w.heap.size + 1, 0, n_⟩ (i_ j_ y)).cell? ⟨w.heap.size, 1, n_⟩ = o_ (s_ n_ 0 0) := by simp [World.cell?, g5]
        have z50 : (w4.setCell ⟨w.heap.size + 1, 0, n_⟩ (i_ j_ y)).frozen? ⟨w.heap.size, 0, n_⟩ = false := Ko _ _ _ _ _ g5;have z51 : (w4.setCell ⟨w.heap.size + 1, 0, n_⟩ (i_ j_ y)).frozen? ⟨w.heap.size, 1, n_⟩ = false := Ko _ _ _ _ _ g5;clear f5 g5;generalize hW : w4.setCell ⟨w.heap.size + 1, 0, n_⟩ (i_ j_ y) = W5 at *;go_wp2;refine KT (K9 results56 _ _ w.heap.size 26 #[i_ j_ (y),s_ (o_ ⟨g, 0, n_⟩) k cp] (0, 0) _ (by rfl) (HM5.I.ends h _ _).2 underlying26 rfl akj) rfl ?_;exact ⟨_, g, k, cp, _, rfl, ⟨hk, by omega⟩, HM5.I.small, (HM5.I.ends h _ _).1⟩
      | false =>
        have f5 := HM3.I.fr;have g5 := HM3.I.I;have c50 : w3.cell? ⟨w.heap.size + 1, 0, n_⟩ = o_ (i_ j_ (at' + d)) := by simp [World.cell?, f5]
        have c51 : w3.cell? ⟨w.heap.size + 1, 1, n_⟩ = o_ (s_ (o_ ⟨g, 0, n_⟩) k cp) := by simp [World.cell?, f5]
        have d50 : w3.cell? ⟨w.heap.size, 0, n_⟩ = o_ (i_ j_ 0) := by simp [World.cell?, g5]
        have d51 : w3.cell? ⟨w.heap.size, 1, n_⟩ = o_ (s_ n_ 0 0) := by simp [World.cell?, g5]
        have z50 : w3.frozen? ⟨w.heap.size, 0, n_⟩ = false := Ko _ _ _ _ _ g5;have z51 : w3.frozen? ⟨w.heap.size, 1, n_⟩ = false := Ko _ _ _ _ _ g5;clear f5 g5;go_wp2;refine KT (K9 results56 _ _ w.heap.size 26 #[i_ j_ (at' + d),s_ (o_ ⟨g, 0, n_⟩) k cp] (0, 0) _ (by rfl) (HM3.I.ends h _ _).2 underlying26 rfl akj) rfl ?_;exact ⟨_, g, k, cp, _, rfl, ⟨hk, by omega⟩, HM3.I.small, (HM3.I.ends h _ _).1⟩
end
end Go.Proofs.YtckenjkcmajicaaGreat
