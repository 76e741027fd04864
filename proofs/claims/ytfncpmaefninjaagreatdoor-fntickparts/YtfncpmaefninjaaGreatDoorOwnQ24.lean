/- What the proof leans on, part 24. -/
import Derived.Test.YtfncpmaefninjaaGreatDoorOwnQ19
import Derived.Stop.Asserts
set_option linter.all false
set_option maxRecDepth 100000
set_option maxHeartbeats 8000000
open Go.Proofs.Tryz
open Go renaming World->w_,Value->v_,Calls->k_,Addr->d_,TypeId->T_
open Go.Ending renaming returned->r_
open Go.IntKind renaming i64->j_
open Go.Obj renaming cells->c_
open Go.RowKit renaming Below->B_,Hid->bN
open Go.Value renaming int->i_,slice->s_,bool->b_,string->t_,agg->a_,pointer->p_,tuple->u_
open Option renaming some->o_,none->n_
open Go renaming wp_at_succ->Kd,wp_at_zero->Kc
open Go.Proofs.Tryz renaming prog->J3

namespace Go.Proofs.YtfncpmaefninjaaGreatDoor
section
open Go.RowKit Go.Extern.Stop Go.Stop Go.Extern
attribute [local go_sem ↓] Kc Kd
def ext (fn:Func):Array v_->Sem v_:=(Extern.find fn).getD fun _=>pure (u_ #[])
def ahh (v:v_) (w:w_):(ext Tryz.f167 #[.iface 287 v]).run J3 w= .ok (.iface 250 (a_ #[p_ (o_ ⟨4,287,n_⟩)])) w:=by kernel_rfl
def agN (w:w_):(ext Tryz.f276 #[a_ #[p_ (o_ ⟨4,287,n_⟩)]]).run J3 w= .ok (b_ true) w:=by kernel_rfl
def agp (v : v_) (w : w_) : (Go.method 433 250 v "Comparable").run J3 w = .ok (276, v) w := by kernel_rfl
def aiH:(Tryz.prog.info? 287).map (·.comparable)=o_ true:=by kernel_rfl
def aiF:(Tryz.prog.info? 321).map (·.size)=o_ 1:=by kernel_rfl
def akz (v:v_) (xT:T_) (w:w_):(Instr.typeAssert (.iface 287 v) xT 252 true).run J3 w= .ok (u_ #[.nilIface,b_ false]) w:=run_typeAssert_lacksB underlying252 Zcq Zcq v xT w
def ahK (v:v_) (xT:T_) (w:w_):(Instr.typeAssert (.iface 287 v) xT 255 true).run J3 w= .ok (u_ #[.nilIface,b_ false]) w:=run_typeAssert_lacksB underlying255 Zcq Zcq v xT w
def ahs (v:v_) (xT:T_) (w:w_):(Instr.typeAssert (.iface 287 v) xT 256 true).run J3 w= .ok (u_ #[.nilIface,b_ false]) w:=run_typeAssert_lacksB underlying256 Zcq Zcq v xT w
def noAsE (v:v_) (xT:T_) (w:w_):(Instr.typeAssert (.iface 287 v) xT 261 true).run J3 w= .ok (u_ #[.nilIface,b_ false]) w:=run_typeAssert_lacksB underlying261 Zcq Zcq v xT w
def akC (v:v_) (xT:T_) (w:w_):(Instr.typeAssert (.iface 192 v) xT 252 true).run J3 w= .ok (u_ #[.nilIface,b_ false]) w:=run_typeAssert_lacksB underlying252 Zcq Zcq v xT w
def aii (v:v_) (xT:T_) (w:w_):(Instr.typeAssert (.iface 192 v) xT 255 true).run J3 w= .ok (u_ #[.iface 192 v,b_ true]) w:=run_typeAssert_hasB underlying255 Zcq v xT w
def ahl (v : v_) (w : w_) : (Go.method 433 192 v "Unwrap").run J3 w = .ok (270, v) w := by kernel_rfl
def agE (args:Array v_) (w:w_):(callFunc 167 args).run J3 w=((ext Tryz.f167 args).run J3 w).andThen fun v w'=> .ok (.value v) w':=run_callFunc_extern func167 Zcq Zcq Zcq Zcq args w
def agy (args:Array v_) (w:w_):(callFunc 276 args).run J3 w=((ext Tryz.f276 args).run J3 w).andThen fun v w'=> .ok (.value v) w':=run_callFunc_extern func276 Zcq Zcq Zcq Zcq args w
def aiE (a:d_) (w:w_):k_ J3 111 #[agz a,agz a] w fun e w'=>e=r_ (b_ true)/\w'=w:=by
 obtain ⟨i,hi,hcmp⟩:=Kw.1 aiH;obtain ⟨j,hj,hjs⟩:=Kw.1 aiF;have h8:=agE;have h32:=agy;have afJ:=ahh;have afF:=agN;have afi:=agp;have heq:=run_eql_iface_ptr_same (P:=J3) w a underlying187 underlying287 hi hcmp hj;exact Zbj
def ai8 (b:d_) (w:w_):k_ J3 111 #[.nilIface,agz b] w fun e w'=>e=r_ (b_ false)/\w'=w:=by
 have hn:=run_eql_iface_nil_left (P:=J3) w 287 (p_ (o_ b)) underlying187;unfold agz
 go_enter func111,ntmps111
 go_wp2;go_ret;exact ⟨rfl,rfl⟩
def ag7 {a b:d_} {ca cb:Array v_} {ta tb:T_} {w:w_} (hne:a≠b) (ha:w.heap[a.block]? =o_ (c_ ca ta)) (hb:w.heap[b.block]? =o_ (c_ cb tb)):k_ J3 111 #[agz a,agz b] w fun e w'=>e=r_ (b_ false)/\w'=w:=by
 obtain ⟨i,hi,hcmp⟩:=Kw.1 aiH;obtain ⟨j,hj,hjs⟩:=Kw.1 aiF;have h8:=agE;have h32:=agy;have afJ:=ahh;have afF:=agN;have afi:=agp;have af0:=akz;have aft:=ahK;have af7:=ahs;have heq:=run_eql_iface_ptr_other (P:=J3) w (a:=a) (b:=b) underlying187 underlying287 hi hcmp hj (by rw [hjs]; decide) hne ha hb;exact Zbj
def aim {st:Int} {a:d_} {w:w_} (hg:w.cell? ⟨3,0,n_⟩=o_ (agz a)):k_ J3 111 #[.iface 192 (a_ #[i_ j_ st]),agz a] w fun e w'=>e=r_ (b_ true)/\B_ w.heap.size w w':=by
 obtain ⟨i,hi,hcmp⟩:=Kw.1 aiH;obtain ⟨j,hj,hjs⟩:=Kw.1 aiF;have h8:=agE;have h32:=agy;have afJ:=ahh;have afF:=agN;have afi:=agp;have afQ:=akC;have afD:=aii;have afZ:=ahl;have heq:=run_eql_iface_ptr_same (P:=J3) (w.alloc (c_ #[i_ j_ st] 192)) a underlying187 underlying287 hi hcmp hj;have hty:=run_eql_iface_types (P:=J3) 192 287 (a_ #[i_ j_ st]) (p_ (o_ a)) underlying187 (by decide) w;exact I_
def ahf {st:Int} {a b:d_} {ca cb:Array v_} {ta tb:T_} {w:w_} (hg:w.cell? ⟨3,0,n_⟩=o_ (agz a)) (hne:a≠b) (ha:w.heap[a.block]? =o_ (c_ ca ta)) (hb:w.heap[b.block]? =o_ (c_ cb tb)):k_ J3 111 #[.iface 192 (a_ #[i_ j_ st]),agz b] w fun e w'=>e=r_ (b_ false)/\B_ w.heap.size w w':=by
 obtain ⟨i,hi,hcmp⟩:=Kw.1 aiH;obtain ⟨j,hj,hjs⟩:=Kw.1 aiF;have h8:=agE;have h32:=agy;have afJ:=ahh;have afF:=agN;have afi:=agp;have af0:=akz;have aft:=ahK;have af7:=ahs;have afQ:=akC;have afD:=aii;have afZ:=ahl;have heq:=run_eql_iface_ptr_other (P:=J3) (w.alloc (c_ #[i_ j_ st] 192)) (a:=a) (b:=b) underlying187 underlying287 hi hcmp hj (by rw [hjs]; decide) hne ((PU (J2.1 ha).1).trans ha) ((PU (J2.1 hb).1).trans hb);have hty:=run_eql_iface_types (P:=J3) 192 287 (a_ #[i_ j_ st]) (p_ (o_ b)) underlying187 (by decide) w;exact I_
abbrev hdV (t:Nat):v_:=p_ (o_ ⟨4,t,n_⟩)
abbrev rtV (t:Nat):v_:=a_ #[hdV t]
abbrev tgV (n:Nat):Array v_:= #[hdV 195,p_ (o_ ⟨n,0,n_⟩),i_ .u64 150]
def aiz (t:Nat) (w:w_):(ext Tryz.f169 #[.iface 195 (p_ (o_ ⟨t,0,n_⟩))]).run J3 w= .ok (a_ (tgV w.heap.size)) (w.alloc (c_ #[p_ (o_ ⟨t,0,n_⟩)] 195)):=by kernel_rfl
def ajM (n:Nat) (w:w_):(ext Tryz.f170 #[a_ (tgV n)]).run J3 w= .ok (.iface 250 (rtV 195)) w:=by kernel_rfl
def ahB (h : v_) (w : w_) : (Go.method 433 250 (a_ #[h]) "Kind").run J3 w = .ok (232, h) w := by kernel_rfl
def ahC (h : v_) (w : w_) : (Go.method 433 250 (a_ #[h]) "Elem").run J3 w = .ok (277,a_ #[h]) w := by kernel_rfl
def agU (h : v_) (w : w_) : (Go.method 433 250 (a_ #[h]) "Implements").run J3 w = .ok (278,a_ #[h]) w := by kernel_rfl
def agH (h : v_) (w : w_) : (Go.method 433 250 (a_ #[h]) "AssignableTo").run J3 w = .ok (275,a_ #[h]) w := by kernel_rfl
def ajm (w:w_):(ext Tryz.f232 #[hdV 195]).run J3 w= .ok (i_ .u8 22) w:=by kernel_rfl
def ajj (w:w_):(ext Tryz.f232 #[hdV 192]).run J3 w= .ok (i_ .u8 25) w:=by kernel_rfl
def ajO (w:w_):(ext Tryz.f277 #[rtV 195]).run J3 w= .ok (.iface 250 (rtV 192)) w:=by kernel_rfl
def ahw (w:w_):(ext Tryz.f278 #[rtV 192,.iface 250 (rtV 187)]).run J3 w= .ok (b_ true) w:=by kernel_rfl
def ajt (v:v_) (w:w_):(ext Tryz.f167 #[.iface 192 v]).run J3 w= .ok (.iface 250 (rtV 192)) w:=by kernel_rfl
def ajx (w:w_):(ext Tryz.f275 #[rtV 192,.iface 250 (rtV 192)]).run J3 w= .ok (b_ true) w:=by kernel_rfl
def ajD (w:w_):(ext Tryz.f275 #[rtV 287,.iface 250 (rtV 192)]).run J3 w= .ok (b_ false) w:=by kernel_rfl
def aja (st:Int) (w:w_):(ext Tryz.f169 #[.iface 192 (a_ #[i_ j_ st])]).run J3 w= .ok (a_ #[hdV 192,p_ (o_ ⟨w.heap.size,0,n_⟩),i_ .u64 153]) (w.alloc (c_ #[i_ j_ st] 192)):=by kernel_rfl
def aiR (n:Nat) (w:w_):(ReflectliteValue.parts (a_ (tgV n))).run J3 w= .ok (o_ (195,⟨n,0,n_⟩,150)) w:=by kernel_rfl
def ajN (n:Nat) (w:w_):(ReflectliteValue.parts (a_ #[hdV 192,p_ (o_ ⟨n,0,n_⟩),i_ .u64 153])).run J3 w= .ok (o_ (192,⟨n,0,n_⟩,153)) w:=by kernel_rfl
def ajS (n:Nat) (w:w_):(ReflectliteValue.parts (a_ #[hdV 192,p_ (o_ ⟨n,0,n_⟩),i_ .u64 409])).run J3 w= .ok (o_ (192,⟨n,0,n_⟩,409)) w:=by kernel_rfl
def ajY (w:w_):(Rtype.elem? 195).run J3 w= .ok (o_ 192) w:=by kernel_rfl
def asMk (n:Nat) (w:w_):(ReflectliteValue.mk 192 ⟨n,0,n_⟩ ReflectliteValue.flagAddr).run J3 w= .ok (a_ #[hdV 192,p_ (o_ ⟨n,0,n_⟩),i_ .u64 409]) w:=by kernel_rfl
def ajH (w:w_):(Rtype.directlyAssignable 192 192).run J3 w= .ok true w:=by kernel_rfl
def ajL (v : v_) : ext Tryz.f171 #[v] = (ReflectliteValue.parts v >>= fun r => match r with | none => ReflectliteValue.valueError "reflectlite.Value.IsNil" 0 | o_ (t, a, fl) => ReflectliteValue.isNil t a fl (fl % 32)) := by kernel_rfl
def akp (v : v_) : ext Tryz.f195 #[v] = (ReflectliteValue.parts v >>= fun r => match r with | none => ReflectliteValue.valueError "reflectlite.Value.Elem" 0 | o_ (t, a, fl) => ReflectliteValue.elem t a fl (fl % 32)) := by kernel_rfl
def extSet:ext Tryz.f196=ReflectliteValue.set:=by kernel_rfl
section
variable {n t:Nat} {W:w_}
def ajk (ha:W.cell? ⟨n,0,n_⟩=o_ (p_ (o_ ⟨t,0,n_⟩))):(ext Tryz.f171 #[a_ (tgV n)]).run J3 W= .ok (b_ false) W:=by
 rw [ajL];simp only [QR,aiR,Result.andThen];simp [ReflectliteValue.isNil,loadVar,isAgg,underlying,underlying195,ha,Result.andThen]
def akn (ha:W.cell? ⟨n,0,n_⟩=o_ (p_ (o_ ⟨t,0,n_⟩))):(ext Tryz.f195 #[a_ (tgV n)]).run J3 W= .ok (a_ #[hdV 192,p_ (o_ ⟨t,0,n_⟩),i_ .u64 409]) W:=by
 rw [akp];simp only [QR,aiR,Result.andThen];simp [ReflectliteValue.elem,loadVar,isAgg,underlying,underlying195,ha,Result.andThen,ajY,asMk]
def set_at {v x val:v_} {W':w_} {dst src:T_} {a b:d_} {k:Nat} (h1:(ReflectliteValue.parts v).run J3 W= .ok (o_ (dst,a,409)) W) (h2:(ReflectliteValue.parts x).run J3 W= .ok (o_ (src,b,k)) W) (h4:(loadVar src b).run J3 W= .ok val W) (h5:(Rtype.directlyAssignable dst src).run J3 W= .ok true W) (h6:(storeVar dst a val).run J3 W= .ok () W'):(ReflectliteValue.set #[v,x]).run J3 W= .ok (u_ #[]) W':=by
 delta ReflectliteValue.set
 delta ReflectliteValue.set.match_3
 dsimp only
 rw [dif_pos (by rfl)];have h1':(ReflectliteValue.parts (#[v,x].getLit 0 rfl zw)).run J3 W= .ok (o_ (dst,a,409)) W:=h1;have h2':(ReflectliteValue.parts (#[v,x].getLit 1 rfl zw)).run J3 W= .ok (o_ (src,b,k)) W:=h2;simp [h1',h2',h4,h5,h6,Result.andThen,ReflectliteValue.flagAddr]
def asSet {st:Int} {old:v_} (hb:W.cell? ⟨n,0,n_⟩=o_ (i_ j_ st)) (ht:W.cell? ⟨t,0,n_⟩=o_ old) (hf:W.frozen? ⟨t,0,n_⟩=false):(ext Tryz.f196 #[a_ #[hdV 192,p_ (o_ ⟨t,0,n_⟩),i_ .u64 409],a_ #[hdV 192,p_ (o_ ⟨n,0,n_⟩),i_ .u64 153]]).run J3 W= .ok (u_ #[]) (W.setCell ⟨t,0,n_⟩ (i_ j_ st)):=by
 rw [extSet];refine set_at (ajS t W) (ajN n W) (val:=a_ #[i_ j_ st]) ?_ (ajH W) ?_
 .simp [loadVar,isAgg,underlying,underlying192,loadCells,loadCellsFrom,hb,Result.andThen,Addr.add]
 .simp [storeVar,Value.cells,storeCells,Addr.add,Result.andThen]
  rw [run_store J3 W ⟨t,0,n_⟩ _ _ (by rfl)];simp [ht,hf]
end
def ahU (args:Array v_) (w:w_):(callFunc 169 args).run J3 w=((ext Tryz.f169 args).run J3 w).andThen fun v w'=> .ok (.value v) w':=run_callFunc_extern func169 Zcq Zcq Zcq Zcq args w
def aiL (args:Array v_) (w:w_):(callFunc 170 args).run J3 w=((ext Tryz.f170 args).run J3 w).andThen fun v w'=> .ok (.value v) w':=run_callFunc_extern func170 Zcq Zcq Zcq Zcq args w
def aiu (args:Array v_) (w:w_):(callFunc 171 args).run J3 w=((ext Tryz.f171 args).run J3 w).andThen fun v w'=> .ok (.value v) w':=run_callFunc_extern func171 Zcq Zcq Zcq Zcq args w
def aiW (args:Array v_) (w:w_):(callFunc 232 args).run J3 w=((ext Tryz.f232 args).run J3 w).andThen fun v w'=> .ok (.value v) w':=run_callFunc_extern func232 Zcq Zcq Zcq Zcq args w
def aiP (args:Array v_) (w:w_):(callFunc 277 args).run J3 w=((ext Tryz.f277 args).run J3 w).andThen fun v w'=> .ok (.value v) w':=run_callFunc_extern func277 Zcq Zcq Zcq Zcq args w
def ahd (args:Array v_) (w:w_):(callFunc 278 args).run J3 w=((ext Tryz.f278 args).run J3 w).andThen fun v w'=> .ok (.value v) w':=run_callFunc_extern func278 Zcq Zcq Zcq Zcq args w
def ahe (args:Array v_) (w:w_):(callFunc 275 args).run J3 w=((ext Tryz.f275 args).run J3 w).andThen fun v w'=> .ok (.value v) w':=run_callFunc_extern func275 Zcq Zcq Zcq Zcq args w
def ajC (args:Array v_) (w:w_):(callFunc 195 args).run J3 w=((ext Tryz.f195 args).run J3 w).andThen fun v w'=> .ok (.value v) w':=run_callFunc_extern func195 Zcq Zcq Zcq Zcq args w
def akt (args:Array v_) (w:w_):(callFunc 196 args).run J3 w=((ext Tryz.f196 args).run J3 w).andThen fun v w'=> .ok (.value v) w':=run_callFunc_extern func196 Zcq Zcq Zcq Zcq args w
def as_nil (t:v_) (w:w_):k_ J3 112 #[.nilIface,t] w fun e w'=>e=r_ (b_ false)/\w'=w:=by
 go_enter func112,ntmps112
 go_wp2;go_ret;exact ⟨rfl,rfl⟩
abbrev asW1 (t:Nat) (w:w_):w_:=w.alloc (c_ #[p_ (o_ ⟨t,0,n_⟩)] 195)
abbrev akh (t:Nat) (w:w_):w_:=(asW1 t w).alloc (c_ (tgV w.heap.size) 233)
abbrev aiN (t:Nat) (w:w_):w_:=(akh t w).alloc (c_ (tgV w.heap.size) 233)
def asB3 (t:Nat) (w:w_):B_ w.heap.size w (aiN t w):=(((Kp _ _).alloc (Ki _) _).alloc zw _).alloc Zcr _
def asG2 {t:Nat} {w:w_} (hg:w.cell? ⟨1,0,n_⟩=o_ (.iface 250 (rtV 187))):(akh t w).cell? ⟨1,0,n_⟩=o_ (.iface 250 (rtV 187)):=by
 have hl:=Le hg;rw [World.cell?_alloc_lt _ _ _ Zcr,World.cell?_alloc_lt _ _ _ hl];exact hg
def ai0 {a:d_} {t:Nat} {w:w_} (hg:w.cell? ⟨1,0,n_⟩=o_ (.iface 250 (rtV 187))):k_ J3 112 #[agz a,.iface 195 (p_ (o_ ⟨t,0,n_⟩))] w fun e w'=>e=r_ (b_ false)/\B_ w.heap.size w w':=by
 have q1:=ahU;have q2:=aiL;have q3:=aiu;have q4:=aiW;have q5:=aiP;have q6:=ahd;have q7:=ahe;have q8:=agE;have e1:=aiz t w;have e2:=ajM;have e3:=ajk (n:=w.heap.size) (t:=t) (W:=akh t w) zw;have e4:=ajm;have e5:=ajj;have e6:=ajO;have e7:=ahw;have e8:=ahh;have e9:=ajD;have m1:=ahB;have m2:=ahC;have m3:=agU;have m4:=agH;have g2:=asG2 (t:=t) hg;have aft:=ahK;have af7:=ahs;have afm:=noAsE;have HB:=aA (asB3 t w);unfold agz;clear hg
 go_enter func112,ntmps112
 go_wp2;refine wp_loop_rounds 1 ?_;rw [rounds_succ];go_wp2;go_ret;exact ⟨rfl,HB.I⟩
def as_hit {st:Int} {t:Nat} {old:v_} {w:w_} (hg:w.cell? ⟨1,0,n_⟩=o_ (.iface 250 (rtV 187))) (ht:w.heap[t]? =o_ (c_ #[old] 192)):k_ J3 112 #[.iface 192 (a_ #[i_ j_ st]),.iface 195 (p_ (o_ ⟨t,0,n_⟩))] w fun e w'=>e=r_ (b_ true)/\w'.heap[t]? =o_ (c_ #[i_ j_ st] 192)/\aI w w' [t] :=by
 have q1:=ahU;have q2:=aiL;have q3:=aiu;have q4:=aiW;have q5:=aiP;have q6:=ahd;have q7:=ahe;have q8:=agE;have q9:=ajC;have q0:=akt;have e1:=aiz t w;have e2:=ajM;have e3:=ajk (n:=w.heap.size) (t:=t) (W:=akh t w) zw;have e4:=ajm;have e5:=ajj;have e6:=ajO;have e7:=ahw;have e8:=ajt;have e9:=ajx;have m1:=ahB;have m2:=ahC;have m3:=agU;have m4:=agH;have g2:=asG2 (t:=t) hg;have l3:=akn (n:=w.heap.size) (t:=t) (W:=aiN t w) (by rw [World.cell?_alloc_lt _ _ ⟨w.heap.size,0,n_⟩ Zcr]; simp);have l4:=aja st (aiN t w);have hB:B_ w.heap.size w ((aiN t w).alloc (c_ #[i_ j_ st] 192)):=(asB3 t w).alloc (asB3 t w).size _;have hlt:=(J2.1 ht).1;have hT:((aiN t w).alloc (c_ #[i_ j_ st] 192)).heap[t]? =o_ (c_ #[old] 192):=(hB.block t hlt).trans ht;have l5:=asSet (n:=w.heap.size+1+1+1) (t:=t) (W:=(aiN t w).alloc (c_ #[i_ j_ st] 192)) (st:=st) (old:=old) (by rw [World.cell?_alloc_at _ _ _ _ zw]; rfl) (by simp [World.cell?,hT]) (Ko _ _ _ _ _ hT);have HE:bN ((((aiN t w).alloc (c_ #[i_ j_ st] 192)).setCell ⟨t,0,n_⟩ (i_ j_ st)).heap[t]? =o_ (c_ #[i_ j_ st] 192)/\aI w (((aiN t w).alloc (c_ #[i_ j_ st] 192)).setCell ⟨t,0,n_⟩ (i_ j_ st)) [t]):=⟨cx (i:=0) (v:=i_ j_ st) hT,(aI.dI hB).trans aI.cell⟩
 clear hg hB hT ht hlt
 go_enter func112,ntmps112
 go_wp2;refine wp_loop_rounds 1 ?_;rw [rounds_succ];go_wp2;go_ret;exact ⟨rfl,HE.I.1,HE.I.2⟩
end
section
open Go.RowKit
attribute [local go_sem ↓] Kc Kd
def aht (c:Int):Prop:=c=0\/c= -1\/c=3\/c=1\/10<=c
def isP (c k:Int):Bool:=decide (c=k) || (decide (k=1) && decide (10<=c))
section
variable {w:w_} {bj:Nat} {E:d_ × d_ × d_} {c:Int}
def aha (h:10<=c):aiB E c= .iface 192 (a_ #[i_ j_ (c - 10)]):=by
 unfold aiB;rw [if_neg zo,if_neg zo,if_neg zo,if_neg zo]
def akd (h:Ers w bj E) (hc:aht c):k_ J3 111 #[aiB E c,agz E.1] w fun e w'=>e=r_ (b_ (isP c (-1)))/\B_ w.heap.size w w':=by
 obtain ⟨-,c1,t1,b1⟩:=h.bx E.1 (.inl rfl);obtain ⟨-,c2,t2,b2⟩:=h.bx E.2.1 (.inr (.inl rfl));obtain ⟨-,c3,t3,b3⟩:=h.bx E.2.2 (.inr (.inr rfl));rcases hc with rfl | rfl | rfl | rfl | hc
 .exact (ai8 E.1 w).mono fun _ _ hh=>⟨hh.1,hh.2 ▸ Kp _ _⟩
 .exact (aiE E.1 w).mono fun _ _ hh=>⟨hh.1,hh.2 ▸ Kp _ _⟩
 .exact (ag7 h.ne.1.symm b2 b1).mono fun _ _ hh=>⟨hh.1,hh.2 ▸ Kp _ _⟩
 .exact (ag7 h.ne.2.1.symm b3 b1).mono fun _ _ hh=>⟨hh.1,hh.2 ▸ Kp _ _⟩
 .rw [aha hc,show isP c (-1)=false by unfold isP; simp; omega]
  exact ahf h.not h.ne.2.1.symm b3 b1
def is_non (h:Ers w bj E) (hc:aht c):k_ J3 111 #[aiB E c,agz E.2.1] w fun e w'=>e=r_ (b_ (isP c 3))/\B_ w.heap.size w w':=by
 obtain ⟨-,c1,t1,b1⟩:=h.bx E.1 (.inl rfl);obtain ⟨-,c2,t2,b2⟩:=h.bx E.2.1 (.inr (.inl rfl));obtain ⟨-,c3,t3,b3⟩:=h.bx E.2.2 (.inr (.inr rfl));rcases hc with rfl | rfl | rfl | rfl | hc
 .exact (ai8 E.2.1 w).mono fun _ _ hh=>⟨hh.1,hh.2 ▸ Kp _ _⟩
 .exact (ag7 h.ne.1 b1 b2).mono fun _ _ hh=>⟨hh.1,hh.2 ▸ Kp _ _⟩
 .exact (aiE E.2.1 w).mono fun _ _ hh=>⟨hh.1,hh.2 ▸ Kp _ _⟩
 .exact (ag7 h.ne.2.2.symm b3 b2).mono fun _ _ hh=>⟨hh.1,hh.2 ▸ Kp _ _⟩
 .rw [aha hc,show isP c 3=false by unfold isP; simp; omega]
  exact ahf h.not h.ne.2.2.symm b3 b2
def is_not (h:Ers w bj E) (hc:aht c):k_ J3 111 #[aiB E c,agz E.2.2] w fun e w'=>e=r_ (b_ (isP c 1))/\B_ w.heap.size w w':=by
 obtain ⟨-,c1,t1,b1⟩:=h.bx E.1 (.inl rfl);obtain ⟨-,c2,t2,b2⟩:=h.bx E.2.1 (.inr (.inl rfl));obtain ⟨-,c3,t3,b3⟩:=h.bx E.2.2 (.inr (.inr rfl));rcases hc with rfl | rfl | rfl | rfl | hc
 .exact (ai8 E.2.2 w).mono fun _ _ hh=>⟨hh.1,hh.2 ▸ Kp _ _⟩
 .exact (ag7 h.ne.2.1 b1 b3).mono fun _ _ hh=>⟨hh.1,hh.2 ▸ Kp _ _⟩
 .exact (ag7 h.ne.2.2 b2 b3).mono fun _ _ hh=>⟨hh.1,hh.2 ▸ Kp _ _⟩
 .exact (aiE E.2.2 w).mono fun _ _ hh=>⟨hh.1,hh.2 ▸ Kp _ _⟩
 .rw [aha hc,show isP c 1=true by unfold isP; simp; omega]
  exact aim h.not
def as_any {t:Nat} {old:v_} (h:Ers w bj E) (hc:aht c) (ht:w.heap[t]? =o_ (c_ #[old] 192)):k_ J3 112 #[aiB E c,.iface 195 (p_ (o_ ⟨t,0,n_⟩))] w fun e w'=>e=r_ (b_ (decide (10<=c)))/\(10<=c->w'.heap[t]? =o_ (c_ #[i_ j_ (c - 10)] 192))/\aI w w' [t] :=by
 have hb: ∀ w',B_ w.heap.size w w'->aI w w' [t] :=fun _ h5=>aI.dI h5
 rcases hc with rfl | rfl | rfl | rfl | hc
 .exact (as_nil _ w).mono fun _ _ hh=>⟨hh.1,fun h5=>absurd h5 (by decide),hb _ (hh.2 ▸ Kp _ _)⟩
 .exact ZaJ
 .exact ZaJ
 .exact ZaJ
 .rw [aha hc,decide_eq_true hc]
  exact (as_hit h.ety ht).mono fun _ _ hh=>⟨hh.1,fun _=>hh.2.1,hh.2.2⟩
def ag6 (c:Int):Int:=if c=3 then 3 else if isP c 1 then 1 else 0
def ai9 (h:Ers w bj E) (lY:bj<=w.heap.size) (hc:aht c):k_ J3 114 #[aiB E c] w fun e w'=>e=r_ (i_ j_ (ag6 c))/\B_ w.heap.size w w':=by
 have H:bN (Ers w bj E/\bj<=w.heap.size/\aht c):=⟨h,lY,hc⟩
 have g1:=h.non;clear lY hc h
 go_enter func114,ntmps114
 go_wp2_with fail;refine (is_non H.I.1 H.I.2.2).mono ?_;rintro e w1 ⟨rfl,hb1⟩;have HB:=aA hb1;clear g1;by_cases e3:c=3
 .have e0:isP c 3=true:=by unfold isP; simp [e3]
  rw [e0];clear hb1 e0;go_wp2;go_ret;rw [show ag6 c=3 by unfold ag6; rw [if_pos e3]];exact ⟨rfl,HB.I⟩
 have e0:isP c 3=false:=by unfold isP; simp [e3]
 have H1:=aA (H.I.1.below (bj:=bj) (w':=w1) (hb1.mono H.I.2.1));have g1:=H1.I.not;rw [e0];clear hb1 e0;go_wp2_with fail;refine (is_not H1.I H.I.2.2).mono ?_;rintro e w2 ⟨rfl,hb2⟩;have cy:=aA (HB.I.trans (hb2.mono HB.I.size));clear g1 hb2;cases e1:isP c 1 with
 | true=>
  go_wp2;go_ret;rw [show ag6 c=1 by unfold ag6; rw [if_neg e3,if_pos e1]];exact ⟨rfl,cy.I⟩
 | false=>
  go_wp2;go_ret;rw [show ag6 c=0 by unfold ag6; rw [if_neg e3,if_neg (by rw [e1]; decide)]];exact ⟨rfl,cy.I⟩
end
end
def aid (p:aE) (r:aE × Int):Prop:=aht r.2/\(10<=r.2->r.1.next=p.next)
section
variable {p q:aE} {c:Int}
def agk (h:c=0\/c= -1\/c=3\/c=1):aid p (q,c):=by
 refine ⟨by unfold aht; simp only; omega,fun h5=> ?_⟩;simp only at h5;omega
def agS (h:10<=c) (hq:q.next=p.next):aid p (q,c):=⟨.inr (.inr (.inr (.inr h))),fun _=>hq⟩
def agl {α:Type} {x:Option α} {f:α->aE × Int} (h: ∀ x,aid p (f x)):aid p (agh p x f):=by
 cases x with
 | none=>exact agk (by decide)
 | some x=>exact h x
def ajA (bC:Int) (x:aD) (o:dN) (p:aE):aid p (agq bC x o p):=by
 unfold agq;by_cases k1:o.1=1
 .rw [if_pos k1]
  unfold runT
  exact Za1
 rw [if_neg k1];by_cases k2:o.1=2
 .rw [if_pos k2]
  exact agk (by decide)
 rw [if_neg k2];by_cases k3:o.1=3
 .rw [if_pos k3]
  refine agl fun s=> ?_
  unfold aiw
  split
  .exact agS (by decide) rfl
  .exact agk (by decide)
 rw [if_neg k3];by_cases k4:o.1=4
 .rw [if_pos k4]
  refine agl fun s=> ?_
  unfold agx
  split
  .exact agk (by decide)
  .exact Za1
 rw [if_neg k4];by_cases k5:o.1=5
 .rw [if_pos k5]
  exact ZbV
 rw [if_neg k5];by_cases k6:o.1=6
 .rw [if_pos k6]
  exact ZbV
 rw [if_neg k6];by_cases k7:o.1=7
 .rw [if_pos k7]
  refine agl fun s=> ?_
  unfold ahQ
  split
  .exact agk (by decide)
  .exact agS (by decide) rfl
 rw [if_neg k7];by_cases k8:o.1=8
 .rw [if_pos k8]
  refine agl fun s=> ?_
  unfold ag8
  split
  .exact agk (by decide)
  .split
   .exact agS (by decide) rfl
   .exact agk (by decide)
 rw [if_neg k8];by_cases k9:o.1=9
 .rw [if_pos k9]
  refine agl fun s=> ?_
  unfold ag5
  split
  .exact agS (by decide) rfl
  .exact Za1
 rw [if_neg k9];by_cases k10:o.1=10
 .rw [if_pos k10]
  exact ZbV
 rw [if_neg k10];by_cases k11:o.1=11
 .rw [if_pos k11]
  exact ZbV
 rw [if_neg k11];by_cases k12:o.1=12
 .rw [if_pos k12]
  refine agl fun s=> ?_
  unfold ain
  split
  .exact agk (by decide)
  .exact agS (by decide) rfl
 rw [if_neg k12];by_cases k13:o.1=13
 .rw [if_pos k13]
  refine agl fun s=> ?_
  unfold agw
  split
  .exact agk (by decide)
  split
  .exact agk (by decide)
  exact Za1
 rw [if_neg k13];by_cases k14:o.1=14
 .rw [if_pos k14]
  refine agl fun s=> ?_
  unfold agB
  split
  .exact agk (by decide)
  exact Za1
 rw [if_neg k14];by_cases k15:o.1=15
 .rw [if_pos k15]
  refine agl fun s=> ?_
  unfold ahH
  exact Za1
 rw [if_neg k15];by_cases k16:o.1=16
 .rw [if_pos k16]
  refine agl fun s=> ?_
  unfold aiy
  split
  .exact agk (by decide)
  .exact Za1
 rw [if_neg k16];exact agk (by decide)
def ajV {bC id:Int} {o:dN} (hc:aht c) (h1: ¬ c= -1) (h2:10<=c->o.2.2.1=0):aic bC id o (p,c)=bu (ag6 c) id p:=by
 unfold aic ag6 isP;simp only;rw [if_neg h1];by_cases h3:10<=c
 .rw [if_pos h3,mX,if_pos (h2 h3),if_neg zo,if_pos (by simp [h3])]
 .rw [if_neg h3]
  rcases hc with rfl | rfl | rfl | rfl | h4
  .rfl
  .exact absurd rfl h1
  .rfl
  .rfl
  .exact absurd h4 h3
end
section
open Go.RowKit Go.Maps
attribute [local go_sem ↓] Kc Kd
variable {w:w_} {bj o d g:Nat} {E:d_ × d_ × d_} {S:aZ} {x:ao} {op:dN} {bC:Int}
def akx (y:ao):ao:=⟨{ y.toaD with pc:=0 },y.aY,y.bH⟩
def ajX (J:Job w bj o d g E S x op bC):
  k_ J3 166 #[p_ (o_ ⟨d,0,n_⟩)] w fun e w'=>agf E o bj g S (aj6 x.toaD S.pure) w e w':=by
 obtain ⟨-,c1,-⟩:=agb J.dg.box;have c4:=(bo J.box).2.2.2.2.1;have f4:w.frozen? ⟨g,4,n_⟩=false:=Ko _ _ _ _ _ J.box;have HF:=aA (J.ju (f:=akx) (f':=fun y=> { y with pc:=0 }) (nx:=S.q.next) (w1:=w.setCell ⟨g,4,n_⟩ (i_ j_ 0)) (fun _=>rfl) (fun _=>⟨rfl,rfl⟩) (cx (i:=4) (v:=i_ j_ 0) J.box) ((aH J.ae9).trans J.dg.at'.opn) (aI.cell.mono zw));have gp:=(J.er.below (HF.I.1.cd J.dg.at' J.dg.low)).past;have HX:=aA J.hx;unfold aj6;clear J
 go_enter func166,ntmps166
 go_wp2;go_ret;exact ⟨S.ju g akx S.q.next,rfl,HF.I.1,HF.I.2,.inl ⟨rfl,agG HX.I⟩⟩
def ajp {e0:aB} {c:Nat} (J:Job w bj o d g E S x op bC) (hs:(e0,c)∈S.le) (hid:e0.id=op.2.1):
  k_ J3 151 #[p_ (o_ ⟨d,0,n_⟩),p_ (o_ ⟨c,0,n_⟩)] w fun e w'=>agf E o bj g S (aiJ op.2.1 S.pure e0) w e w':=by
 have hb:=J.dg.at'.L9.box _ hs;have c1:=(kF hb).2;have f1:w.frozen? ⟨c,1,n_⟩=false:=Ko _ _ _ _ _ hb;have HE:=aA (o4.event (x':= { e0 with up:=false }) (fun y=> { y with up:=false }) J.dg.at' hs (cx (i:=1) (v:=b_ false) hb) rfl rfl aI.cell);rw [hid] at HE;unfold aiJ;clear hb J
 go_enter func151,ntmps151
 exact ZaE
def ajv {e0:aB} {c:Nat} (J:Job w bj o d g E S x op bC) (hs:(e0,c)∈S.le):
  k_ J3 152 #[p_ (o_ ⟨d,0,n_⟩),p_ (o_ ⟨c,0,n_⟩)] w fun e w'=>agf E o bj g S (ahQ S.pure e0) w e w':=by
 have c1:=(kF (J.dg.at'.L9.box _ hs)).2;have HJ:=aA J;unfold ahQ;clear J hs
 revert c1
 cases e0.up with
 | true=>
  intro c1
  go_enter func152,ntmps152
  go_wp2;go_ret;exact agf.same (c:=0) HJ.I (Kp _ _)
 | false=>
  intro c1
  go_enter func152,ntmps152
  go_wp2;go_ret;exact agf.same (c:=14) HJ.I (Kp _ _)
def ai1 {s:bD} {c:Nat} (J:Job w bj o d g E S x op bC) (hs:(s,c)∈S.ls) (hid:s.id=op.2.1):
  k_ J3 148 #[p_ (o_ ⟨d,0,n_⟩),p_ (o_ ⟨c,0,n_⟩)] w fun e w'=>agf E o bj g S (agx op.2.1 S.pure s) w e w':=by
 have HJ:bN (Job w bj o d g E S x op bC/\(s,c)∈S.ls):=⟨J,hs⟩
 clear J hs
 go_enter func148,ntmps148
 go_wp2_with fail;refine (ahv o d g bj S op bC 3 w HJ.I.1.dg (HJ.I.1.wk 3)).mono ?_;rintro e w2 (⟨b1,rfl,hb2⟩ | ⟨y,S',b1,rfl,hm,hp,hkp⟩)
 .have HB:=aA hb2
  have hb:=(HJ.I.1.below hb2).dg.at'.aj.box _ HJ.I.2;have c1:w2.cell? ⟨c,1,n_⟩=o_ (i_ j_ s.n):=by simp [World.cell?,hb,eH]
  have c2:w2.cell? ⟨c,2,n_⟩=o_ (i_ j_ s.max):=by simp [World.cell?,hb,eH]
  have f1:w2.frozen? ⟨c,1,n_⟩=false:=Ko _ _ _ _ _ hb;have gn:=(HJ.I.1.below hb2).er.not;have hsr:=(cK HJ.I.1.right.aj s (Lr.2 ⟨_,HJ.I.2,rfl⟩)).2;simp only [gw,J7] at hsr;obtain ⟨m0,m1⟩:=bz.1 hsr.1;obtain ⟨n0,n1⟩:=bz.1 hsr.2;have HE:=aA (o4.sem (w1:=w2.drew.setCell ⟨c,1,n_⟩ (i_ j_ (s.n+1))) (x':= { s with n:=s.n+1 }) (fun y=> { y with n:=y.n+1 }) (HJ.I.1.below hb2).dg.at' HJ.I.2 (cx (i:=1) (v:=i_ j_ (s.n+1)) hb) rfl rfl ((aI.dI (Kp _ _).drew).trans aI.cell));rw [hid] at HE;have H1:=aA b1;clear hb hsr hb2 b1;by_cases h0:s.n=s.max
  .have e0:(s.n == s.max)=true:=by simp [h0]
   have H0:=aA h0;clear h0;go_wp2_with fail;refine aT (fun w'=>w'=w2.drew) Zcq rfl ?_
   iterate 9 (refine agj ?_)
   refine bk Zcq ?_ _;intro w1 cm;subst cm;go_wp2;go_ret;rw [show agx op.2.1 S.pure s=(S.pure,1) by unfold agx; rw [H1.I]; simp only [if_pos H0.I]];exact agf.same (c:=1) HJ.I.1 HB.I.drew
  .have e0:(s.n == s.max)=false:=by simp [h0]
   have H0:=aA h0;go_wp2_with fail;refine aT (fun w'=>w'=w2.drew) Zcq rfl ?_
   iterate 9 (refine agj ?_)
   refine bk Zcq ?_ _;intro w1 cm;subst cm;go_wp2;go_ret;rw [show agx op.2.1 S.pure s=(nZ op.2.1 1 S.pure,0) by unfold agx; rw [H1.I]; simp only [if_neg H0.I]];obtain ⟨S',h5,h6,h7,-⟩:=HE.I;exact ⟨S',rfl,(o4.below HJ.I.1.dg.at' HB.I).trans h5,h6,.inr (afU.of h7)⟩
 .have HB:bN (o4 o bj S w S' w2/\S'.pure=gF (fun y=>y) S.pure y/\afU g S S'):=⟨hm,hp,hkp⟩
  have H1:=aA b1;clear hm hp hkp b1;go_wp2;go_ret;rw [show agx op.2.1 S.pure s=(gF (fun y=>y) S.pure y,0) by unfold agx; rw [H1.I]];exact ⟨S',rfl,HB.I.1,HB.I.2.1,.inr HB.I.2.2⟩
def eqProc {a b:Nat} {w:w_} {x y:ao} (hx:w.heap[a]? =o_ (c_ (aX x) 41)) (hy:w.heap[b]? =o_ (c_ (aX y) 41)):Sem.run J3 (binOp BinOp.eql 64 (p_ (o_ ⟨a,0,n_⟩)) (p_ (o_ ⟨b,0,n_⟩))) w= .ok (b_ (decide (a=b))) w:=by
 simp only [binOp,go_sem];unfold Op.equal Op.maxDepth;unfold Op.equalIn;simp [go_sem];by_cases h:a=b
 .subst h
  rw [run_sameAddr_same];simp
 .rw [run_sameAddr_other w (a:=⟨a,0,n_⟩) (b:=⟨b,0,n_⟩) zw hx hy]
  simp [h]
def aix (y:ao):ao:=⟨j7 y.toaD,y.aY,y.bH⟩
def aj4 {y:ao} {c:Nat} (J:Job w bj o d g E S x op bC) (hs:(y,c)∈S.lp) (hid:y.id=op.2.1):
  k_ J3 165 #[p_ (o_ ⟨d,0,n_⟩),p_ (o_ ⟨c,0,n_⟩)] w fun e w'=>agf E o bj g S (aiy op.2.1 x.id S.pure y.toaD) w e w':=by
 have hb:=J.dg.at'.L8.box _ hs;have c3:=(bo hb).2.2.2.1;have gn:=J.er.not;have HJ:bN (Job w bj o d g E S x op bC/\(y,c)∈S.lp):=⟨J,hs⟩
 have Mb:=NI c y w hb;unfold aiy;by_cases h0:y.Md=0
 .have e0:(y.Md == 0)=true:=by simp [h0]
  rw [if_pos (show y.toaD.Md=0 from h0)];clear h0 J hs hb Mb
  go_enter func165,ntmps165
  go_wp2;go_ret;exact agf.same (c:=1) HJ.I.1 (Kp _ _)
 .have e0:(y.Md == 0)=false:=by simp [h0]
  rw [if_neg (show ¬ y.toaD.Md=0 from h0)];clear h0 J hs hb
  go_enter func165,ntmps165
  go_wp2_with fail;refine Mb.mono ?_;clear Mb c3 e0 gn;rintro e w2 ⟨rfl,hw⟩;have HF:bN (o4 o bj S w (S.ju c aix S.q.next) w2/\(S.ju c aix S.q.next).pure=ot op.2.1 S.pure):=by
   have ha:=HJ.I.1.dg.at'.apart (aZ.ago (LB _ (Lr.2 ⟨_,HJ.I.2,rfl⟩)));rw [hw];refine ⟨o4.ju HJ.I.1.dg.at' (fun _=>⟨rfl,rfl,rfl,rfl⟩) HJ.I.2 (KU _ _ _ _ _ _ (HJ.I.1.dg.at'.L8.box _ HJ.I.2)) ((KH _ _ _ _ ha.1).trans HJ.I.1.dg.at'.opn) (aI.row.mono zw),?_⟩;rw [<- hid];exact aZ.Sb (nx:=S.q.next) (f:=aix) (f':=j7) (agv HJ.I.1.right) (fun p hp hpg=>HJ.I.1.dg.at'.L8.one hp HJ.I.2 hpg) HJ.I.2 (fun _=>rfl)
  have c1:=(agb (HJ.I.1.dg.move HF.I.1).box).2.1;have gp:=(HJ.I.1.er.below (HF.I.1.cd HJ.I.1.dg.at' HJ.I.1.dg.low)).past;have hpc:=HF.I.1.at'.L8.box (aix y,c) (yy.2 ⟨(y,c),HJ.I.2,by simp⟩);obtain ⟨z,hz⟩: ∃ z:ao,w2.heap[g]? =o_ (c_ (aX z) 41):=by
   have h5:g∈(S.ju c aix S.q.next).lp.map (·.2):=by
    show g∈(sU c aix S.lp).map (·.2)
    rw [qb];exact Lr.2 ⟨_,HJ.I.1.hx,rfl⟩
   obtain ⟨r,hr,e5⟩:=Lr.1 h5;exact ⟨r.1,by rw [<- e5]; exact HF.I.1.at'.L8.box r hr⟩
  have e1:=eqProc hpc hz;clear hw hpc hz;by_cases hcg:c=g
  .rw [decide_eq_true hcg] at e1
   have hyx:op.2.1=x.id:=by rw [<- hid,show y=x from congrArg Prod.fst (HJ.I.1.dg.at'.L8.one HJ.I.2 HJ.I.1.hx hcg)]
   subst hcg;have HY:=aA hyx;clear hyx;go_wp2;go_ret;exact ⟨_,rfl,HF.I.1,(by rw [<- HY.I]; exact HF.I.2),.inl ⟨rfl,agG HJ.I.2⟩⟩
  .rw [decide_eq_false hcg] at e1
   have hyx: ¬ op.2.1=x.id:=fun e=>hcg (congrArg Prod.snd (HJ.I.1.dg.at'.L8.onk HJ.I.2 HJ.I.1.hx (by rw [hid,e])))
   have HN:=aA hcg;exact ZbQ
def ajb {y:ao} {c:Nat} (J:Job w bj o d g E S x op bC) (hs:(y,c)∈S.lp) (hid:y.id=op.2.1):
  k_ J3 164 #[p_ (o_ ⟨d,0,n_⟩),p_ (o_ ⟨c,0,n_⟩)] w fun e w'=>agf E o bj g S (ahH op.2.1 S.pure y.toaD) w e w':=by
 have hb:=J.dg.at'.L8.box _ hs;have c3:=(bo hb).2.2.2.1;have c0:=(agb J.dg.box).1;have gn:=J.er.not;have HJ:bN (Job w bj o d g E S x op bC/\(y,c)∈S.lp):=⟨J,hs⟩
 have Mb:=ajh o c bj S y w J.dg.at' hs J.nx.1 J.nx.2;unfold ahH;by_cases h0:y.Md=0
 .have e0:(y.Md != 0)=false:=by simp [h0]
  rw [if_pos (show y.toaD.Md=0 from h0)];have HN:bN (¬ c=g):=fun e=>by
   have h5:=J.up;rw [<- show y=x from congrArg Prod.fst (J.dg.at'.L8.one hs J.hx e)] at h5;omega
  clear h0 J hs hb
  go_enter func164,ntmps164
  go_wp2_with fail;refine Mb.mono ?_;clear Mb c3 e0 gn c0;rintro e w2 ⟨rfl,hat,hkp⟩;have HF:bN (o4 o bj S w (S.ju c (F2 S.q.next) (S.q.next+1)) w2/\(S.ju c (F2 S.q.next) (S.q.next+1)).pure=py op.2.1 S.pure):=by
   refine ⟨⟨hat,hkp.mono fun b hb=> ?_,fun b hb _=> ?_⟩,?_⟩
   .simp only [Kt,Ku,or_false] at hb
    rcases hb with rfl | rfl
    .exact aZ.agr (aZ.ago (LB _ (Lr.2 ⟨_,HJ.I.2,rfl⟩)))
    .simp [aZ.al]
   .rw [ahk (f:=F2 S.q.next) fun _=>rfl] at hb
    exact hb
   .rw [<- hid]
    exact aZ.Sb (nx:=S.q.next+1) (f:=F2 S.q.next) (f':=fun y=> { y with Md:=1,RU:=S.q.next }) (agv HJ.I.1.right) (fun p hp hpg=>HJ.I.1.dg.at'.L8.one hp HJ.I.2 hpg) HJ.I.2 (fun _=>rfl)
  clear hat hkp;exact ZbQ
 .have e0:(y.Md != 0)=true:=by simp [h0]
  rw [if_neg (show ¬ y.toaD.Md=0 from h0)];clear h0 J hs hb Mb
  go_enter func164,ntmps164
  go_wp2;go_ret;exact agf.same (c:=1) HJ.I.1 (Kp _ _)
variable {w:w_} {bj o d g:Nat} {E:d_ × d_ × d_} {S:aZ} {x:ao} {op:dN} {bC:Int}
def ajw {b:aM} {c:Nat} (J:Job w bj o d g E S x op bC) (hs:(b,c)∈S.lq) (hid:b.id=op.2.1):
  k_ J3 162 #[p_ (o_ ⟨d,0,n_⟩),p_ (o_ ⟨c,0,n_⟩)] w fun e w'=>agf E o bj g S (agB op.2.1 x.id S.pure b.todS) w e w':=by
 have hd:w.heap[c]? =o_ (c_ (cW b) 115):=J.dg.at'.ai.box _ hs;obtain ⟨b0,b1,b2,b3,b4⟩:=gE hd;obtain ⟨-,c1,-⟩:=agb J.dg.box;have HJ:=aA J;have HB:=aA hs;have HM0: ∀ t:ByteArray,bN (o4 o bj S w (S.ju g (agF t) S.q.next) (w.drew.setCell ⟨g,9,n_⟩ (t_ t))/\(S.ju g (agF t) S.q.next).pure=ez t x.id S.pure):=fun t=>by
  exact Zam
 have GO:bN (o4 o bj S w (S.ju g (agF rM) S.q.next) (w.setCell ⟨g,9,n_⟩ (t_ rM))/\(S.ju g (agF rM) S.q.next).pure=ez rM x.id S.pure):=⟨o4.got J.dg.at' J.hx,agW J.dg.at' J.right J.hx⟩
 have YU:bN (w.drew.cell? ⟨g,9,n_⟩=o_ (t_ x.got)/\w.drew.frozen? ⟨g,9,n_⟩=false):=⟨(bo J.box).2.2.2.2.2.2.2.2.2.1,Ko _ _ _ _ _ J.box⟩
 have iJ:=aip J.right hs;have gn:=J.er.non;cases ho:b.I with
 | true=>
  rw [ho] at b1;rw [show agB op.2.1 x.id S.pure b.todS=(S.pure,3) by unfold agB; rw [if_pos (show b.todS.I=true from ho)]];clear J hs hd HM0 iJ
  go_enter func162,ntmps162
  exact V_
 | false=>
 rw [ho] at b1;have hno: ¬ b.todS.I=true:=by rw [show b.todS.I=false from ho]; decide
 cases hit:b.Ma with
 | nil=>
  have hz:b.Ma.length=0:=by rw [hit]; rfl
  rw [hz] at b4;rw [show agB op.2.1 x.id S.pure b.todS=(ez rM x.id S.pure,1) by unfold agB; rw [if_neg hno,show b.todS.Ma= [] from hit]];have gt:=(J.er.below (GO.I.1.cd J.dg.at' J.dg.low)).not;have c9:=(bo J.box).2.2.2.2.2.2.2.2.2.1;have f9:w.frozen? ⟨g,9,n_⟩=false:=Ko _ _ _ _ _ J.box;unfold rM at gt;clear J hs hd HM0 iJ hno ho hit hz
  go_enter func162,ntmps162
  exact ZbK
 | cons t r=>
  have hlen:b.Ma.length=r.length+1:=by rw [hit]; rfl
  obtain ⟨abo,hgi,h0⟩:=nP (J.dg.at'.eR _ hs) 0 (t_ t) ZcP;replace hgi:b.ak=o_ ⟨abo,0,n_⟩:=hgi;have HGI:=aA hgi;have HM:=HM0 t;have hS:w.drew.heap[d]? =o_ (c_ (dgV o g op bC) 142)/\w.drew.heap[c]? =o_ (c_ (cW b) 115)/\w.drew.cell? ⟨abo,0,n_⟩=o_ (t_ t):=⟨J.dg.box,hd,h0⟩
  have y5:(w.drew.setCell ⟨g,9,n_⟩ (t_ t)).heap[d]? =o_ (c_ (dgV o g op bC) 142)/\(w.drew.setCell ⟨g,9,n_⟩ (t_ t)).heap[c]? =o_ (c_ (cW b) 115)/\(w.drew.setCell ⟨g,9,n_⟩ (t_ t)).cell? ⟨abo,0,n_⟩=o_ (t_ t):=by
   obtain ⟨g2,hg2,h2⟩:=nP (HM.I.1.at'.eR _ hs) 0 (t_ t) ZcP;have hg2:b.ak=o_ ⟨g2,0,n_⟩:=hg2;rw [hgi] at hg2;obtain rfl:abo=g2:=by simpa using hg2
   exact ⟨(J.dg.move HM.I.1).box,HM.I.1.at'.ai.box _ hs,h2⟩
  rw [hgi] at b4;have i0:(b.Ma.length == 0)=false:=by rw [hlen]; rfl
  have qE:((b.Ma.length:Int) == 0)=false:=by rw [hlen]; simp; omega
  have i1:0 < b.Ma.length:=zo
  have HI:bN (b.Ma.length=r.length+1/\b.Ma=t :: r/\b.Ma.length<=1000):=⟨hlen,hit,zo⟩
  cases hq:b.Mf with
  | false=>
   rw [show agB op.2.1 x.id S.pure b.todS=(ez t x.id S.pure,0) by unfold agB; rw [if_neg hno,show b.todS.Ma=t :: r from hit]; simp only [show b.todS.Mf=false from hq]; rfl];have k2:(w.drew.setCell ⟨g,9,n_⟩ (t_ t)).cell? ⟨c,2,n_⟩=o_ (b_ false):=by rw [<- hq]; exact (gE (HM.I.1.at'.ai.box _ hs)).2.2.1
   clear J hs hd HM0 iJ hno ho hit hq hlen hgi h0
   go_enter func162,ntmps162
   go_wp2_with fail;refine Kr (S:=fun W=>W.heap[d]? =o_ (c_ (dgV o g op bC) 142)/\W.heap[c]? =o_ (c_ (cW b) 115)/\W.cell? ⟨abo,0,n_⟩=o_ (t_ t)) Zcq hS (fun _=> ?_)
   revert hS y5 YU HM k2
   generalize w.drew=V;intro YU HM hS y5 k2;refine tt 0 hS ?_;refine tt 1 hS ?_;refine tt 2 hS ?_;refine afJ 3 hS ?_;refine tt 4 hS ?_;refine tt 5 hS ?_;refine tt 6 hS ?_;refine tt 7 hS ?_ (hy:=fun w0 hS0=>by have b0:=(gE hS0.2.1).2.2.2.2; rw [HGI.I] at b0; go_simp; try with_reducible rfl);refine tt 8 hS ?_;refine afJ 9 hS ?_;refine tt 10 hS ?_;refine tt 11 hS ?_;obtain ⟨c9,f9⟩:=YU.I;refine L7 12 (fun K hK=> ?_);go_wp2_with fail;refine hK.out _ _ y5 (fun _=> ?_);clear hK K
   try simp only [pt,sb,s0,s1]
   refine K3 Zcq ?_ _;clear hS y5 c9 f9 YU;go_wp2;go_ret;exact ⟨_,rfl,HM.I.1,HM.I.2,.inr (afU.ju fun _ _=>⟨rfl,rfl,rfl,rfl⟩)⟩
  | true=>
   rw [show agB op.2.1 x.id S.pure b.todS=(gU op.2.1 r (ez t x.id S.pure),0) by unfold agB; rw [if_neg hno,show b.todS.Ma=t :: r from hit]; simp only [show b.todS.Mf=true from hq]; rfl];obtain ⟨-,-,k2,-,k4⟩:=gE (HM.I.1.at'.ai.box _ hs);rw [hq] at k2;have Mb:=adJ b.ak b.aq 1 bj b.Ma _ zo zo (HM.I.1.at'.eR _ hs);clear J hs hd HM0 iJ hno ho hit hq hlen hgi h0
   go_enter func162,ntmps162
   go_wp2_with fail;refine Kr (S:=fun W=>W.heap[d]? =o_ (c_ (dgV o g op bC) 142)/\W.heap[c]? =o_ (c_ (cW b) 115)/\W.cell? ⟨abo,0,n_⟩=o_ (t_ t)) Zcq hS (fun _=> ?_)
   revert hS y5 YU HM k2 k4 Mb
   generalize w.drew=V;intro YU HM hS y5 k2 k4 Mb;refine tt 0 hS ?_;refine tt 1 hS ?_;refine tt 2 hS ?_;refine afJ 3 hS ?_;refine tt 4 hS ?_;refine tt 5 hS ?_;refine tt 6 hS ?_;refine tt 7 hS ?_ (hy:=fun w0 hS0=>by have b0:=(gE hS0.2.1).2.2.2.2; rw [HGI.I] at b0; go_simp; try with_reducible rfl);refine tt 8 hS ?_;refine afJ 9 hS ?_;refine tt 10 hS ?_;refine tt 11 hS ?_;obtain ⟨c9,f9⟩:=YU.I;refine L7 12 (fun K hK=> ?_);go_wp2_with fail;refine hK.out _ _ y5 (fun _=> ?_);clear hK K
   try simp only [pt,sb,s0,s1]
   refine K3 Zcq ?_ _;clear hS y5 c9 f9 YU;go_wp2_with fail;refine Mb.mono ?_;clear Mb;rintro e w2 ⟨rfl,DU,hk2⟩;have hlr:b.Ma.length - 1=r.length:=by have:=HI.I.1; omega
   have pI:b.Ma.drop 1=r:=by rw [HI.I.2.1]; rfl
   rw [hlr,pI] at DU;obtain ⟨⟨S2,m1,m2,m3,m4,m5⟩,hb2⟩:=ahu HM.I.1.at' HB.I hk2 DU (fun b' hb'=> .inl hb');have wx:=(gE hb2).2.2.2.2;have afE:w2.frozen? ⟨c,4,n_⟩=false:=Ko _ _ _ _ _ hb2;have HE:bN (o4 o bj S w S2 (w2.setCell ⟨c,4,n_⟩ (s_ b.ak r.length b.aq))/\S2.pure=gU op.2.1 r (ez t x.id S.pure)/\afU g S S2):=⟨HM.I.1.trans m1,by rw [m2,HM.I.2,hid],afU.trans (S1:=S.ju g (agF t) S.q.next) (afU.ju fun _ _=>⟨rfl,rfl,rfl,rfl⟩) (afU.of m3)⟩
   rw [hlr];clear DU hk2 m1 m2 m3 m4 m5 hb2 hlr pI k2 k4;go_wp2;go_ret;exact ⟨S2,rfl,HE.I.1,HE.I.2.1,.inr HE.I.2.2⟩
end
end Go.Proofs.YtfncpmaefninjaaGreatDoor
