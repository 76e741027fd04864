/- Part 11. -/
import Derived.Test.YteidkehoekbcaaaGreatOwnC10
set_option maxRecDepth 100000
set_option maxHeartbeats 8000000
open Array renaming getElem?_eq_some_iff->J2
open Go renaming heap_alloc_new->Kj,setRow_other->KH,wpAnyH_done->K3,wp_at_succ->Kd,wp_at_zero->Kc,wp_region_held_drew->Kr
open Go.Deep renaming blk_setCell_other->ac5
open Go.RowKit.Below renaming refl->Kp
open Go.World renaming cell?_of_block->J1
open List renaming getElem?_eq_getElem->Kz,getElem?_eq_some_iff->Lj,length_append->Lf,length_nil->K4,mem_cons->Kt,mem_of_getElem?->KA,nil_append->Ll
open Nat renaming le_refl->Ki,zero_add->Li
namespace Go.Proofs.YteidkehoekbcaaaGreat
section
open Go.RowKit Go.Maps
attribute [local go_sem ↓] Kc Kd
def adq (w:World) (base:Nat) (k:eA) (src:Int) (e:Ending) (W:World):Prop:= ∃ l:List af,e= .returned (.agg k.row)∧abx w base k l [] W∧l.map (·.pure)=abI src k.pure.parts k.eC∧abz k.pure.parts (l.map (·.pure))
theorem abU {w w':World} {a:Addr} {v:Value} (hb:Below w.heap.size w w') (h:w.cell? a=some v):w'.cell? a=some v:=(hb.cell (p:=a) (block_lt_of_cell h)).trans h
abbrev SqH (w:World) (k:eA) (aaB n g:Nat) (q:af) (Xs Y8:Nat) (x1 x2:aM) (W':World):Prop:=Tk W' w.heap.size k∧W'.cell? ⟨aaB,n * 8+7,none⟩=some (.slice (some ⟨g,0,none⟩) q.ai.length q.aV)∧W'.heap[Xs]? =some (.cells (cW x1) 85 (0,0))∧W'.heap[Y8]? =some (.cells (cW x2) 85 (0,0))
abbrev Y6 (w:World) (k:eA):List (Nat × Array Value × TypeId):= [(w.heap.size,k.row,37),(w.heap.size+1,T9,37)]
theorem ab0 {w W:World} {base:Nat} {k:eA} {l:List af} {B:List (Nat × Array Value × TypeId)} (h:abx w base k l (B ++ Y6 w k) W):Tk W w.heap.size k:=(h.box (w.heap.size,k.row,37) (by simp)).1
theorem adp {w:World} {base:Nat} {k:eA} (h:gp w base k):abx w base k k.parts (Y6 w k) ((w.alloc (.cells k.row 37)).alloc (.cells T9 37)):=by
 have h0:abx w base k k.parts [] w:=⟨h,rfl,aI.refl _ _,fun g hg=>(h.lt hg).2,fun g hg=> .inl hg,fun x hx=>by cases hx⟩
 have h1:=(h0.put k.row 37).put T9 37;refine h1.less fun x hx=> ?_
 simp only [Kt,List.not_mem_nil,or_false] at hx ⊢;rcases hx with rfl | rfl
 ·exact .inr rfl
 ·exact .inl (by simp)
theorem acP (k:eA) (src:Int) (base:Nat) (w:World) (hs:k.pure.Small) (hch: ∀ c∈k.eC,pa k.pure.parts c=true) (hr: ∀ p∈k.pure.parts,∀ q∈p.ai,dj q=true) (lY:base≤w.heap.size) (ho:gp w base k):
  Calls Go.Proofs.Tryz.prog 69 #[.agg k.row,.int .i64 src] w fun e W=>adq w base k src e W:=by
 have S:Hid (abx w base k k.parts (Y6 w k) ((w.alloc (.cells k.row 37)).alloc (.cells T9 37))):=adp ho;have HH:=aA (And.intro hs (And.intro hch (And.intro hr lY)));clear hs hch hr lY ho
 go_enter Tryz.func69,Tryz.ntmps69
 go_upto_region 1 with fail;generalize (w.alloc (.cells k.row 37)).alloc (.cells T9 37)=W0 at *;go_wp2_with fail
 go_loopw [5] (fun i wr=> ∃ n:Nat,n≤k.eC.length∧i= .int .i64 n∧ ∃ l:List af,Hid (abx w base k l (Y6 w k) wr∧l.map (·.pure)=abI src k.pure.parts (k.eC.take n)∧abz k.pure.parts (l.map (·.pure)))) (fun i _=>k.eC.length - (Go.RowKit.intOf i).toNat)
 case atStart=>exact ⟨0,Nat.zero_le _,rfl,k.parts,S.I,rfl,abz.refl HH.I.2.2.1⟩
 case round=>
  clear S;obtain ⟨n,hn,rfl,l,S⟩:=hrel;have hnc:=HH.I.1.w8;obtain ⟨m0,m1,m2,m3,m4⟩:=(ab0 (B:= []) S.I.1).cells;by_cases hlt:n < k.eC.length
  ·have i0:(0:Int)≤(n:Int):=by omega
   have i1:(n:Int) < (k.eC.length:Int):=by omega
   have hnc2:(k.eC.length:Int)≤1048576:=by have:k.eC.length≤1048576:=hnc; omega
   obtain ⟨c,hc⟩: ∃ c,k.eC[n]? =some c:=⟨_,Kz hlt⟩
   obtain ⟨gc,hgc,z0,z1,z2,z3⟩:=TH S.I.1.own.at.eC hc;rw [show k.qi=some ⟨gc,0,none⟩ from hgc] at m4;have HC:Hid (k.eC[n]? =some c):=hc;clear hc hgc;have S1:Hid (abx w base k l ((wr.heap.size,nx c,80) :: Y6 w k) (wr.alloc (.cells (nx c) 80))):=S.I.1.put _ _;have HP:=aA S.I.2;clear S;go_upto_region 5 with fail;clear m0 m1 m2 m3 m4 z0 z1 z2 z3;generalize wr.alloc (.cells #[.int .i64 c.src,.int .i64 c.ga,.int .i64 c.dst,.int .i64 c.hI] 80)=W1 at *;generalize wr.heap.size=abj at *;have HSN:Hid (abI src k.pure.parts (k.eC.take (n+1))=if c.src=src then abM (l.map (·.pure)) c else l.map (·.pure)):=by show _=_; rw [ace HC.I,← HP.I.1]
   have hcb:W1.heap[abj]? =some (.cells (nx c) 80 (0,0)):=(S1.I.box (abj,nx c,80) (by simp)).1;have d0:W1.cell? ⟨abj,0,none⟩=some (.int .i64 c.src):=by simp [World.cell?,hcb]
   clear hcb;by_cases hne: ¬ c.src=src
   ·have Jf:Hid (abI src k.pure.parts (k.eC.take (n+1))=l.map (·.pure)):=by show _=_; rw [HSN.I,if_neg hne]
    clear HSN;go_wp2;go_roundw
    case rel=>exact ⟨n+1,by omega,by go_num,l,S1.I.less (fun x hx=>List.mem_cons_of_mem _ hx),Jf.I.symm,HP.I.2⟩
    case measure=>simp [Go.RowKit.intOf]; omega
   have hsrc:c.src=src:=Decidable.not_not.1 hne;clear hne;have Jf:Hid (abI src k.pure.parts (k.eC.take (n+1))=abM (l.map (·.pure)) c):=by show _=_; rw [HSN.I,if_pos hsrc]
   have HSR:=aA hsrc;clear HSN;obtain ⟨s,t,hes,het,hqq,hsd,hps,hpt⟩:=HP.I.2.ends (HH.I.2.1 c (KA HC.I));obtain ⟨n1,q1,j1,x1,a1,a2,a3,a4,a5,a6,a7,a8⟩:=adt hes;obtain ⟨n2,q2,j2,x2,b1,b2,b3,b4,b5,b6,b7,b8⟩:=adt het;subst a7 b7;have HE:Hid (endP (l.map (·.pure)) c.src c.ga=some x1.todS∧endP (l.map (·.pure)) c.dst c.hI=some x2.todS∧x1.Mf=x2.Mf∧ ¬ c.src=c.dst∧dj x1.todS=true∧dj x2.todS=true):=⟨hes,het,hqq,hsd,hps,hpt⟩
   have H1:Hid (place (l.map (·.id)) c.src 0=(n1:Int)∧l[n1]? =some q1∧q1.id=c.src∧n0 l c.src c.ga=(j1:Int)∧place (q1.ai.map (·.id)) c.ga 0=(j1:Int)∧q1.ai[j1]? =some x1∧x1.id=c.ga):=⟨a1,a2,a3,a4,a5,a6,a8⟩
   have H2:Hid (place (l.map (·.id)) c.dst 0=(n2:Int)∧l[n2]? =some q2∧q2.id=c.dst∧n0 l c.dst c.hI=(j2:Int)∧place (q2.ai.map (·.id)) c.hI 0=(j2:Int)∧q2.ai[j2]? =some x2∧x2.id=c.hI):=⟨b1,b2,b3,b4,b5,b6,b8⟩
   clear hes het hqq hsd hps hpt a1 a2 a3 a4 a5 a6 a8 b1 b2 b3 b4 b5 b6 b8 hsrc;have fl:Hid ((k.wp l).Fit):=Ug (k:=k.wp l) (ac0 HH.I.1 HP.I.2);have hnb:(c.src != src)=false:=by rw [HSR.I]; simp
   go_upto_region 6 with fail;clear d0 hnb;have hcb:W1.heap[abj]? =some (.cells (nx c) 80 (0,0)):=(S1.I.box (abj,nx c,80) (by simp)).1;have d0:W1.cell? ⟨abj,0,none⟩=some (.int .i64 c.src):=by simp [World.cell?,hcb]
   have d1:W1.cell? ⟨abj,1,none⟩=some (.int .i64 c.ga):=by simp [World.cell?,hcb]
   have d2:W1.cell? ⟨abj,2,none⟩=some (.int .i64 c.dst):=by simp [World.cell?,hcb]
   have d3:W1.cell? ⟨abj,3,none⟩=some (.int .i64 c.hI):=by simp [World.cell?,hcb]
   clear hcb;obtain ⟨m0,m1,m2,m3,m4⟩:=(ab0 (B:= [(abj,nx c,80)]) S1.I).cells;have Mb:=TB (k.wp l) c.src c.ga W1 fl.I S1.I.own.at;rw [S1.I.row,show (k.wp l).parts=l from rfl,H1.I.1,H1.I.2.2.2.1] at Mb;go_wp2_with fail;clear m0 m1 m2 m3 m4 d0 d1 d2 d3;refine Mb.mono ?_;clear Mb;rintro e W2 ⟨rfl,hb⟩;replace S1:=aA (S1.I.below hb);clear hb;have hcb:W2.heap[abj]? =some (.cells (nx c) 80 (0,0)):=(S1.I.box (abj,nx c,80) (by simp)).1;have d0:W2.cell? ⟨abj,0,none⟩=some (.int .i64 c.src):=by simp [World.cell?,hcb]
   have d1:W2.cell? ⟨abj,1,none⟩=some (.int .i64 c.ga):=by simp [World.cell?,hcb]
   have d2:W2.cell? ⟨abj,2,none⟩=some (.int .i64 c.dst):=by simp [World.cell?,hcb]
   have d3:W2.cell? ⟨abj,3,none⟩=some (.int .i64 c.hI):=by simp [World.cell?,hcb]
   clear hcb;obtain ⟨m0,m1,m2,m3,m4⟩:=(ab0 (B:= [(abj,nx c,80)]) S1.I).cells;have Mb:=TB (k.wp l) c.dst c.hI W2 fl.I S1.I.own.at;rw [S1.I.row,show (k.wp l).parts=l from rfl,H2.I.1,H2.I.2.2.2.1] at Mb;go_wp2_with fail;clear m0 m1 m2 m3 m4 d0 d1 d2 d3;refine Mb.mono ?_;clear Mb;rintro e W3 ⟨rfl,hb⟩;replace S1:=aA (S1.I.below hb);clear hb;obtain ⟨m0,m1,m2,m3,m4⟩:=(ab0 (B:= [(abj,nx c,80)]) S1.I).cells;obtain ⟨aaB,g1,p1,p2,p3,⟨u0,u1,u2,u3,u4⟩,-,-,-,-⟩:=abV S1.I.own H1.I.2.1 H1.I.2.2.2.2.2.1;rw [p1] at m3;have HG1:Hid (k.qn=some ⟨aaB,0,none⟩∧q1.aK=some ⟨g1,0,none⟩):=⟨p1,p2⟩
   have hl1:n1 < l.length:=(Lj.1 H1.I.2.1).1;have DS:j1 < q1.ai.length:=(Lj.1 H1.I.2.2.2.2.2.1).1;have ll:=S1.I.len;have k0:(0:Int)≤(n1:Int):=by omega
   have k1:(n1:Int) < (k.parts.length:Int):=by omega
   have k2:(0:Int)≤(j1:Int):=by omega
   have k3:(j1:Int) < (q1.ai.length:Int):=by omega
   clear p1 p2 hl1 DS ll;have S2:Hid (abx w base k l ((W3.heap.size,cW x1,85) :: (abj,nx c,80) :: Y6 w k) (W3.alloc (.cells (cW x1) 85))):=S1.I.put _ _;clear S1;unfold cW at S2;go_upto_region 9 with fail;clear m0 m1 m2 m3 m4 u0 u1 u2 u3 u4 p3 k0 k1 k2 k3;generalize W3.alloc (.cells #[.int .i64 x1.id,.bool x1.I,.bool x1.Mf,.int .i64 x1.max,.slice x1.ak x1.Ma.length x1.aq] 85)=W4 at *;generalize W3.heap.size=Xs at *;rw [show #[.int .i64 x1.id,.bool x1.I,.bool x1.Mf,.int .i64 x1.max,.slice x1.ak x1.Ma.length x1.aq] =cW x1 from rfl] at S2;obtain ⟨m0,m1,m2,m3,m4⟩:=(ab0 (B:= [(Xs,cW x1,85),(abj,nx c,80)]) S2.I).cells;obtain ⟨gP',g2,p1,p2,p3,⟨u0,u1,u2,u3,u4⟩,-,-,-,-⟩:=abV S2.I.own H2.I.2.1 H2.I.2.2.2.2.2.1;rw [HG1.I.1] at p1;cases p1;rw [HG1.I.1] at m3;have HG2:Hid (q2.aK=some ⟨g2,0,none⟩):=p2;have hl1:n2 < l.length:=(Lj.1 H2.I.2.1).1;have DS:j2 < q2.ai.length:=(Lj.1 H2.I.2.2.2.2.2.1).1;have ll:=S2.I.len;have k0:(0:Int)≤(n2:Int):=by omega
   have k1:(n2:Int) < (k.parts.length:Int):=by omega
   have k2:(0:Int)≤(j2:Int):=by omega
   have k3:(j2:Int) < (q2.ai.length:Int):=by omega
   clear p2 hl1 DS ll;have S3:Hid (abx w base k l ((W4.heap.size,cW x2,85) :: (Xs,cW x1,85) :: (abj,nx c,80) :: Y6 w k) (W4.alloc (.cells (cW x2) 85))):=S2.I.put _ _;clear S2;unfold cW at S3;go_upto_region 10 with fail;clear m0 m1 m2 m3 m4 u0 u1 u2 u3 u4 p3 k0 k1 k2 k3;generalize W4.alloc (.cells #[.int .i64 x2.id,.bool x2.I,.bool x2.Mf,.int .i64 x2.max,.slice x2.ak x2.Ma.length x2.aq] 85)=W5 at *;generalize W4.heap.size=Y8 at *;rw [show #[.int .i64 x2.id,.bool x2.I,.bool x2.Mf,.int .i64 x2.max,.slice x2.ak x2.Ma.length x2.aq] =cW x2 from rfl,show #[.int .i64 x1.id,.bool x1.I,.bool x1.Mf,.int .i64 x1.max,.slice x1.ak x1.Ma.length x1.aq] =cW x1 from rfl] at S3;have oh:Hid (W5.heap[Xs]? =some (.cells (cW x1) 85 (0,0))∧W5.heap[Y8]? =some (.cells (cW x2) 85 (0,0))∧Tk W5 w.heap.size k):=⟨(S3.I.box (Xs,cW x1,85) (by simp)).1,(S3.I.box (Y8,cW x2,85) (by simp)).1,ab0 (B:= [(Y8,cW x2,85),(Xs,cW x1,85),(abj,nx c,80)]) S3.I⟩
   obtain ⟨v0,v1,v2,v3,v4⟩:=gE oh.I.1;have adF:n1≠n2:=fun e=>by have h5:=H1.I.2.1; rw [e,H2.I.2.1] at h5; cases h5; exact HE.I.2.2.2.1 (H1.I.2.2.1.symm.trans H2.I.2.2.1)
   have HN12:=aA adF;clear adF;cases ab6:x1.Mf
   ·rw [ab6] at v2
    by_cases hz:x1.Ma.length=0
    ·have HZ:Hid (abM (l.map (·.pure)) c=l.map (·.pure)):=by show _=_; unfold abM; rw [HE.I.1,HE.I.2.1]; simp only [ab6]; rw [if_neg (by decide),if_pos hz]
     have hz1: ¬ 0 < x1.Ma.length:=by omega
     have hz2:decide (0 < x1.Ma.length)=false:=decide_eq_false hz1;clear hz ab6;go_wp2;go_roundw
     case rel=>exact ⟨n+1,by omega,by go_num,l,S3.I.less (fun x hx=>by simp only [Kt] at hx ⊢; exact .inr (.inr (.inr hx))),(Jf.I.trans HZ.I).symm,HP.I.2⟩
     case measure=>simp [Go.RowKit.intOf]; omega
    obtain ⟨sv,hs0⟩: ∃ sv,x1.Ma[0]? =some sv:=⟨_,Kz (by omega)⟩
    have htk:x1.Ma.take 1= [sv] :=by rw [show (1:Nat)=0+1 from rfl,List.take_add_one,hs0]; rfl
    have HZ:Hid (abM (l.map (·.pure)) c=abK c.dst c.hI [sv] (l.map (·.pure))):=by show _=_; unfold abM; rw [HE.I.1,HE.I.2.1]; simp only [ab6]; rw [if_neg (by decide),if_neg hz,htk]
    have hz1:0 < x1.Ma.length:=by omega
    have hz2:decide (0 < x1.Ma.length)=true:=decide_eq_true hz1;have hz3:(0:Int) < (x1.Ma.length:Int):=by omega
    clear hz ab6 htk;obtain ⟨-,-,-,-,-,-,r1,-,-,-⟩:=abV S3.I.own H1.I.2.1 H1.I.2.2.2.2.2.1;obtain ⟨abo,hgi,hci⟩:=r1 0 (.string sv) (by cases hl:x1.Ma with | nil=>(rw [hl] at hs0; cases hs0) | cons y r=>(rw [hl] at hs0; cases hs0; rfl));obtain ⟨gP',g2',p1,p2,p3,-,-,abh,aap,hPg⟩:=abV S3.I.own H2.I.2.1 H2.I.2.2.2.2.2.1;rw [HG1.I.1] at p1;cases p1;rw [HG2.I] at p2;cases p2;have hgn:abo≠g2:=fun e=>adL S3.I.own H1.I.2.1 H2.I.2.1 HN12.I H1.I.2.2.2.2.2.1 (by rw [hgi]; simp [blk,e]) HG2.I
    rw [hgi] at v4;have HI:Hid (W5.cell? ⟨abo,0,none⟩=some (.string sv)∧abo≠g2∧aaB≠g2∧Xs≠g2∧w.heap.size≠g2∧x1.ak=some ⟨abo,0,none⟩):=⟨hci,hgn,hPg,fun e=>(S3.I.box (Xs,cW x1,85) (by simp)).2 (e ▸ aap),fun e=>(S3.I.box (w.heap.size,k.row,37) (by simp)).2 (e ▸ aap),hgi⟩
    have WM:Hid (W5.cell? ⟨aaB,n2 * 8+7,none⟩=some (.slice (some ⟨g2,0,none⟩) q2.ai.length q2.aV)):=p3;clear hci hgn hPg hgi p3 abh aap hs0;go_upto_region 12 with fail;clear v0 v1 v2 v3 v4 hz2;refine ZN (fun a0 a' w'=> ∃ (e73 e74 e75 e76 e77 e78 e79 e80 e81 e82 e83 e84 e85 e86:Value) (l2:List af),a'=Zk a0 [(73,e73),(74,e74),(75,e75),(76,e76),(77,e77),(78,e78),(79,e79),(80,e80),(81,e81),(82,e82),(83,e83),(84,e84),(85,e85),(86,e86)] ∧abx w base k l2 (Y6 w k) w'∧l2.map (·.pure)=abK c.dst c.hI [sv] (l.map (·.pure))) ?_ ?_
    ·have HS:Hid ((fun W'=>Tk W' w.heap.size k∧W'.cell? ⟨aaB,n2 * 8+7,none⟩=some (.slice (some ⟨g2,0,none⟩) q2.ai.length q2.aV)∧W'.heap[Xs]? =some (.cells (cW x1) 85 (0,0))∧W'.cell? ⟨abo,0,none⟩=some (.string sv)) W5.drew):=⟨oh.I.2.2,WM.I,oh.I.1,HI.I.1⟩
     refine Kr (S:=(fun W'=>Tk W' w.heap.size k∧W'.cell? ⟨aaB,n2 * 8+7,none⟩=some (.slice (some ⟨g2,0,none⟩) q2.ai.length q2.aV)∧W'.heap[Xs]? =some (.cells (cW x1) 85 (0,0))∧W'.cell? ⟨abo,0,none⟩=some (.string sv))) (by kernel_rfl) HS.I (fun _=> ?_);replace S3:=aA (S3.I.below (V:=W5.drew) (Kp _ _).drew);generalize W5.drew=YI at *;have hl1:n2 < l.length:=(Lj.1 H2.I.2.1).1;have DS:j2 < q2.ai.length:=(Lj.1 H2.I.2.2.2.2.2.1).1;have ll:=S3.I.len;have k0:(0:Int)≤(n2:Int):=by omega
     have k1:(n2:Int) < (k.parts.length:Int):=by omega
     have k2:(0:Int)≤(j2:Int):=by omega
     have k3:(j2:Int) < (q2.ai.length:Int):=by omega
     clear hl1 DS ll;refine tt 0 HS.I ?_;refine tt 1 HS.I ?_ (hy:=fun w0 hS0=>by obtain ⟨m0,m1,m2,m3,m4⟩:=hS0.1.cells; rw [HG1.I.1] at m3; go_simp; try with_reducible rfl);refine tt 2 HS.I ?_;refine tt 3 HS.I ?_;refine tt 4 HS.I ?_;refine tt 5 HS.I ?_ (hy:=fun w0 hS0=>by have p3:=hS0.2.1; go_simp; try with_reducible rfl);refine tt 6 HS.I ?_;refine tt 7 HS.I ?_;refine tt 8 HS.I ?_ (hy:=fun w0 hS0=>by obtain ⟨v0,v1,v2,v3,v4⟩:=gE hS0.2.2.1; rw [HI.I.2.2.2.2.2] at v4; go_simp; try with_reducible rfl);refine tt 9 HS.I ?_;refine tt 10 HS.I ?_ (hy:=fun w0 hS0=>by have p3:=hS0.2.2.2; go_simp; try with_reducible rfl)
     try simp only [pt,sb,s0,s1]
     refine L7 11 (fun Q hQ=> ?_);go_wp2_with fail;have hbA:Below YI.heap.size YI (YI.alloc (.cells #[.string sv] 9)):=(Kp _ _).alloc (Ki _) _;have hlow:base≤YI.heap.size:=by have:=S3.I.kept.size; have:=HH.I.2.2.2; omega
     obtain ⟨hLK,hcell,hfro⟩:=S3.I.Ma hbA H2.I.2.1 H2.I.2.2.2.2.2.1 HG2.I (cq (IN YI sv) hlow) (fun g hg=>by simp [blk] at hg; omega);have HA:Hid ((fun W'=>Tk W' w.heap.size k∧W'.cell? ⟨aaB,n2 * 8+7,none⟩=some (.slice (some ⟨g2,0,none⟩) q2.ai.length q2.aV)∧W'.heap[Xs]? =some (.cells (cW x1) 85 (0,0))∧W'.cell? ⟨abo,0,none⟩=some (.string sv)) (YI.alloc (.cells #[.string sv] 9))):=⟨(hbA.block _ (J2.1 HS.I.1).1).trans HS.I.1,(abU hbA HS.I.2.1),(hbA.block _ (J2.1 HS.I.2.2.1).1).trans HS.I.2.2.1,abU hbA HS.I.2.2.2⟩
     have HL:Hid (abx w base k (l.set n2 (abS q2 j2 x2 [sv] (some ⟨YI.heap.size,0,none⟩) 1)) (Y6 w k) (World.setCell (YI.alloc (.cells #[.string sv] 9)) ⟨g2,j2 * 5+4,none⟩ (.slice (some ⟨YI.heap.size,0,none⟩) 1 1))):=hLK.less fun x hx=>by simp only [Kt] at hx ⊢; exact .inr (.inr (.inr hx))
     have HCF:Hid ((∃ u,World.cell? (YI.alloc (.cells #[.string sv] 9)) ⟨g2,j2 * 5+4,none⟩=some u)∧World.frozen? (YI.alloc (.cells #[.string sv] 9)) ⟨g2,j2 * 5+4,none⟩=false):=⟨hcell,hfro⟩
     clear hLK hcell hfro hbA hlow;refine hQ.out _ _ HA.I (fun _=> ?_);clear hQ Q
     try simp only [pt,sb,s0,s1]
     refine tt 12 HA.I ?_;refine tt 13 HA.I ?_;refine L7 14 (fun Q hQ=> ?_);obtain ⟨⟨u,hu⟩,hfz⟩:=HCF.I;go_wp2_with fail;clear hu hfz;refine hQ.out _ _ ⟨(ac5 _ _ _ _ HI.I.2.2.2.2.1).trans HA.I.1,(J1 (ac5 _ _ _ _ HI.I.2.2.1)).trans HA.I.2.1,(ac5 _ _ _ _ HI.I.2.2.2.1).trans HA.I.2.2.1,(J1 (ac5 _ _ _ _ HI.I.2.1)).trans HA.I.2.2.2⟩ (fun _=> ?_);clear hQ Q;refine K3 (by kernel_rfl) ?_ _;exact ⟨_,_,_,_,_,_,_,_,_,_,_,_,_,_,_,by simp only [Zk,pt,sb,s0,s1]; rfl,HL.I,acr H2.I.1 H2.I.2.1 H2.I.2.2.1 H2.I.2.2.2.2.1 H2.I.2.2.2.2.2.1 H2.I.2.2.2.2.2.2⟩
    ·rintro a' W6 ⟨e73,e74,e75,e76,e77,e78,e79,e80,e81,e82,e83,e84,e85,e86,l2,rfl,hL2,hp2⟩
     simp only [Zk,pt,sb,s0,s1];have HL2:Hid (abx w base k l2 (Y6 w k) W6∧l2.map (·.pure)=abM (l.map (·.pure)) c):=⟨hL2,hp2.trans HZ.I.symm⟩
     have HC2:Hid (abz k.pure.parts (l2.map (·.pure))):=by show abz _ _; rw [HL2.I.2]; exact HP.I.2.carry (HH.I.2.1 c (KA HC.I))
     clear hL2 hp2;go_wp2;go_roundw
     case rel=>exact ⟨n+1,by omega,by go_num,l2,HL2.I.1,HL2.I.2.trans Jf.I.symm,HC2.I⟩
     case measure=>simp [Go.RowKit.intOf]; omega
   ·rw [ab6] at v2
    obtain ⟨-,pm2,-,-,pm5⟩:=abT HE.I.2.2.2.2.1;obtain ⟨-,tm2,-,-,tm5⟩:=abT HE.I.2.2.2.2.2;obtain ⟨N,hN⟩: ∃ N,min x1.Ma.length (ab4 x2.todS)=N:=⟨_,rfl⟩
    have hN1:N≤x1.Ma.length:=by omega
    have hN2:N≤5:=by omega
    have hmin:min (x1.Ma.length:Int) (x2.max - x2.Ma.length)=(N:Int):=by rw [← hN]; unfold ab4; omega
    have HNN:Hid (min x1.Ma.length (ab4 x2.todS)=N∧x1.Mf=true):=⟨hN,ab6⟩
    clear hN ab6;obtain ⟨y0,y1,y2,y3,y4⟩:=gE oh.I.2.1;go_upto_region 14 with fail;clear v0 v1 v2 v3 v4 y0 y1 y2 y3 y4 hmin;have hcap:x1.Ma.length≤x1.aq:=adu (S3.I.own.mine q1 (KA H1.I.2.1)) H1.I.2.2.2.2.2.1;have hcapI:(x1.Ma.length:Int)≤(x1.aq:Int):=by omega
    have hN3:(N:Int)≤(x1.aq:Int):=by omega
    have hN4:N≤x1.aq:=by omega
    have hN0:(0:Int)≤(N:Int):=by omega
    have hN5:(N:Int)≤(x1.Ma.length:Int):=by omega
    have HA1:=H1;obtain ⟨gP',g',p1,p2,p3,-,-,abh,aap,hPg⟩:=abV S3.I.own H2.I.2.1 H2.I.2.2.2.2.2.1;rw [HG1.I.1] at p1;cases p1;rw [HG2.I] at p2;cases p2;obtain ⟨-,-,-,-,-,-,r1,-,-,-⟩:=abV S3.I.own HA1.I.2.1 HA1.I.2.2.2.2.2.1;have pG:Hid (Row W5 x1.ak (bT.flat x1.Ma)):=r1;obtain ⟨-,-,-,-,-,-,r2,-,-,-⟩:=abV S3.I.own H2.I.2.1 H2.I.2.2.2.2.2.1;have HR2:Hid (Row W5 x2.ak (bT.flat x2.Ma)):=r2;clear r2;have HI:Hid (aaB≠g2∧Xs≠g2∧Y8≠g2∧w.heap.size≠g2):=⟨hPg,fun e=>(S3.I.box (Xs,cW x1,85) (by simp)).2 (e ▸ aap),fun e=>(S3.I.box (Y8,cW x2,85) (by simp)).2 (e ▸ aap),fun e=>(S3.I.box (w.heap.size,k.row,37) (by simp)).2 (e ▸ aap)⟩
    have HS:Hid ((SqH w k aaB n2 g2 q2 Xs Y8 x1 x2) W5.drew):=⟨(show Tk W5 w.heap.size k from ab0 (B:= [(Y8,cW x2,85),(Xs,cW x1,85),(abj,nx c,80)]) S3.I),p3,(S3.I.box (Xs,cW x1,85) (by simp)).1,(S3.I.box (Y8,cW x2,85) (by simp)).1⟩
    clear p3 abh aap hPg r1;refine Kr (S:=(SqH w k aaB n2 g2 q2 Xs Y8 x1 x2)) (by kernel_rfl) HS.I (fun _=> ?_);replace S3:=aA (S3.I.below (V:=W5.drew) (Kp _ _).drew);replace pG:=aA (pG.I.below (w':=W5.drew) (Kp _ _).drew);replace HR2:=aA (HR2.I.below (w':=W5.drew) (Kp _ _).drew);generalize W5.drew=YI at *;have hl1:n2 < l.length:=(Lj.1 H2.I.2.1).1;have DS:j2 < q2.ai.length:=(Lj.1 H2.I.2.2.2.2.2.1).1;have ll:=S3.I.len;have k0:(0:Int)≤(n2:Int):=by omega
    have k1:(n2:Int) < (k.parts.length:Int):=by omega
    have k2:(0:Int)≤(j2:Int):=by omega
    have k3:(j2:Int) < (q2.ai.length:Int):=by omega
    clear hl1 DS ll;refine tt 0 HS.I ?_;refine tt 1 HS.I ?_ (hy:=fun w0 hS0=>by obtain ⟨m0,m1,m2,m3,m4⟩:=hS0.1.cells; rw [HG1.I.1] at m3; go_simp; try with_reducible rfl);refine tt 2 HS.I ?_;refine tt 3 HS.I ?_;refine tt 4 HS.I ?_;refine tt 5 HS.I ?_ (hy:=fun w0 hS0=>by have p3:=hS0.2.1; go_simp; try with_reducible rfl);refine tt 6 HS.I ?_;refine tt 8 HS.I ?_;refine tt 9 HS.I ?_ (hy:=fun w0 hS0=>by obtain ⟨v0,v1,v2,v3,v4⟩:=gE hS0.2.2.2; go_simp; try with_reducible rfl);refine tt 11 HS.I ?_;refine tt 12 HS.I ?_ (hy:=fun w0 hS0=>by obtain ⟨v0,v1,v2,v3,v4⟩:=gE hS0.2.2.1; go_simp; try with_reducible rfl);refine tt 13 HS.I ?_;refine tt 14 HS.I ?_
    try simp only [pt,sb,s0,s1]
    have hlow:base≤YI.heap.size:=by have:=S3.I.kept.size; have:=HH.I.2.2.2; omega
    refine L7 7 (fun Q hQ=> ?_);go_wp2_with fail;have hbA:Below YI.heap.size YI (YI.alloc (.cells #[] 9)):=(Kp _ _).alloc (Ki _) _;refine hQ.out _ _ ⟨(hbA.block _ (J2.1 HS.I.1).1).trans HS.I.1,abU hbA HS.I.2.1,(hbA.block _ (J2.1 HS.I.2.2.1).1).trans HS.I.2.2.1,(hbA.block _ (J2.1 HS.I.2.2.2).1).trans HS.I.2.2.2⟩ (fun _=> ?_);clear hQ Q
    try simp only [pt,sb,s0,s1]
    have hem:((YI.alloc (.cells #[] 9))).ownsRow YI.heap.size 9 1 (.slice (some ⟨YI.heap.size,0,none⟩) ([] :List ByteArray).length 0) ([] :List ByteArray).length (bT.flat []):=i6 (Kj _ _) (Ki _);obtain ⟨a2,c2,w2,hr2,DU,hg2,pv⟩:=ou (YI.alloc (.cells #[] 9)) YI.heap.size _ 0 [] hem x2.ak x2.Ma x2.aq (IS (HR2.I.below hbA)) (by simp only [K4]; omega) hbA.size;simp only [K4,Li,Ll] at hr2 DU;have hb2:Below YI.heap.size YI w2:=hbA.grown hg2 hbA.size (fun g hg=>by simp [Value.ownBlock] at hg; omega);refine L7 10 (fun Q hQ=> ?_);refine cM _ _ 83 rfl _ _ _ w2 (by kernel_rfl) (by kernel_rfl) hr2 ?_;refine hQ.out _ _ ⟨(hb2.block _ (J2.1 HS.I.1).1).trans HS.I.1,abU hb2 HS.I.2.1,(hb2.block _ (J2.1 HS.I.2.2.1).1).trans HS.I.2.2.1,(hb2.block _ (J2.1 HS.I.2.2.2).1).trans HS.I.2.2.2⟩ (fun _=> ?_);clear hQ Q
    try simp only [pt,sb,s0,s1]
    have hlt:(x1.Ma.take N).length=N:=by rw [List.length_take]; omega
    obtain ⟨a3,c3,w3,hr3,Bn,hg3,IJ⟩:=ou w2 YI.heap.size a2 c2 x2.Ma DU x1.ak (x1.Ma.take N) x1.aq (uM N (pG.I.below hb2)) (by rw [hlt]; omega) hb2.size;rw [hlt] at hr3;rw [← Lf] at Bn;have hb3:Below YI.heap.size YI w3:=hb2.grown hg3 hb2.size (fun g hg=>(cf DU (di hg)).1);refine L7 15 (fun Q hQ=> ?_);refine cM _ _ 83 rfl _ _ _ w3 (by kernel_rfl) (by kernel_rfl) hr3 ?_;obtain ⟨hLK,hcell,hfro⟩:=S3.I.Ma hb3 H2.I.2.1 H2.I.2.2.2.2.2.1 HG2.I (cq Bn hlow) (fun g hg=>(cf Bn hg).1);rw [Lf,hlt] at hLK;have HA:Hid ((SqH w k aaB n2 g2 q2 Xs Y8 x1 x2) w3):=⟨(hb3.block _ (J2.1 HS.I.1).1).trans HS.I.1,abU hb3 HS.I.2.1,(hb3.block _ (J2.1 HS.I.2.2.1).1).trans HS.I.2.2.1,(hb3.block _ (J2.1 HS.I.2.2.2).1).trans HS.I.2.2.2⟩
    have HLK:=aA hLK;have HCF:Hid ((∃ u,w3.cell? ⟨g2,j2 * 5+4,none⟩=some u)∧w3.frozen? ⟨g2,j2 * 5+4,none⟩=false):=⟨hcell,hfro⟩
    clear hLK hcell hfro;refine hQ.out _ _ HA.I (fun _=> ?_);clear hQ Q
    try simp only [pt,sb,s0,s1]
    refine tt 16 HA.I ?_;refine tt 17 HA.I ?_;refine L7 18 (fun Q hQ=> ?_);obtain ⟨⟨u,hu⟩,hfz⟩:=HCF.I;clear hr3 Bn hg3 IJ hb3 hbA hem hr2 DU hg2 pv hb2;go_wp2_with fail;clear hu hfz;refine hQ.out _ _ ⟨(ac5 _ _ _ _ HI.I.2.2.2).trans HA.I.1,(J1 (ac5 _ _ _ _ HI.I.1)).trans HA.I.2.1,(ac5 _ _ _ _ HI.I.2.1).trans HA.I.2.2.1,(ac5 _ _ _ _ HI.I.2.2.1).trans HA.I.2.2.2⟩ (fun _=> ?_);clear hQ Q HA HS HI pG HR2 k0 k1 k2 k3 hlow hlt;generalize w3.setCell ⟨g2,j2 * 5+4,none⟩ (.slice a3 (x2.Ma.length+N) c3)=W6 at *;clear HCF;refine K3 (by kernel_rfl) ?_ _;have HL6:=HLK;clear HLK S3;obtain ⟨aah,haN⟩: ∃ aah,aah=a3:=⟨_,rfl⟩
    subst haN;obtain ⟨abG,hcN⟩: ∃ abG,abG=c3:=⟨_,rfl⟩
    subst hcN;obtain ⟨l6,hl6⟩: ∃ l6,l.set n2 (abS q2 j2 x2 (x2.Ma ++ x1.Ma.take N) aah abG)=l6:=⟨_,rfl⟩
    rw [hl6] at HL6;have HP6:Hid (l6.map (·.pure)=abK c.dst c.hI (x2.Ma ++ x1.Ma.take N) (l.map (·.pure))):=by show _=_; rw [← hl6]; exact acr H2.I.1 H2.I.2.1 H2.I.2.2.1 H2.I.2.2.2.2.1 H2.I.2.2.2.2.2.1 H2.I.2.2.2.2.2.2
    have hq6:l6[n1]? =some q1:=by rw [← hl6,List.getElem?_set_ne (fun e=>HN12.I e.symm)]; exact H1.I.2.1
    have hi6:l6.map (·.id)=l.map (·.id):=by rw [← hl6,List.map_set]; exact set_id H2.I.2.1
    have HA6:Hid (place (l6.map (·.id)) c.src 0=(n1:Int)∧l6[n1]? =some q1∧q1.id=c.src∧True∧place (q1.ai.map (·.id)) c.ga 0=(j1:Int)∧q1.ai[j1]? =some x1∧x1.id=c.ga):=⟨by rw [hi6]; exact H1.I.1,hq6,H1.I.2.2.1,trivial,H1.I.2.2.2.2⟩
    clear hl6 hq6 hi6 HA1;have HA1:=HA6;go_upto_region 15 with fail;obtain ⟨gP',g',p1,p2,p3,-,-,abh,aap,hPg⟩:=abV HL6.I.own HA6.I.2.1 HA6.I.2.2.2.2.2.1;rw [HG1.I.1] at p1;cases p1;rw [HG1.I.2] at p2;cases p2;obtain ⟨-,-,-,-,-,-,r1,-,-,-⟩:=abV HL6.I.own HA1.I.2.1 HA1.I.2.2.2.2.2.1;have pG:Hid (Row W6 x1.ak (bT.flat x1.Ma)):=r1;have HI:Hid (aaB≠g1∧Xs≠g1∧Y8≠g1∧w.heap.size≠g1):=⟨hPg,fun e=>(HL6.I.box (Xs,cW x1,85) (by simp)).2 (e ▸ aap),fun e=>(HL6.I.box (Y8,cW x2,85) (by simp)).2 (e ▸ aap),fun e=>(HL6.I.box (w.heap.size,k.row,37) (by simp)).2 (e ▸ aap)⟩
    have HS:Hid ((SqH w k aaB n1 g1 q1 Xs Y8 x1 x2) W6.drew):=⟨(show Tk W6 w.heap.size k from ab0 (B:= [(Y8,cW x2,85),(Xs,cW x1,85),(abj,nx c,80)]) HL6.I),p3,(HL6.I.box (Xs,cW x1,85) (by simp)).1,(HL6.I.box (Y8,cW x2,85) (by simp)).1⟩
    clear p3 abh aap hPg r1;refine Kr (S:=(SqH w k aaB n1 g1 q1 Xs Y8 x1 x2)) (by kernel_rfl) HS.I (fun _=> ?_);replace HL6:=aA (HL6.I.below (V:=W6.drew) (Kp _ _).drew);replace pG:=aA (pG.I.below (w':=W6.drew) (Kp _ _).drew);generalize W6.drew=YI at *;have hl1:n1 < l6.length:=(Lj.1 HA6.I.2.1).1;have DS:j1 < q1.ai.length:=(Lj.1 HA6.I.2.2.2.2.2.1).1;have ll:=HL6.I.len;have k0:(0:Int)≤(n1:Int):=by omega
    have k1:(n1:Int) < (k.parts.length:Int):=by omega
    have k2:(0:Int)≤(j1:Int):=by omega
    have k3:(j1:Int) < (q1.ai.length:Int):=by omega
    clear hl1 DS ll;obtain ⟨A3,hA3⟩: ∃ A3,(if x1.aq=N then x1.ak else Option.map (fun x=>x.add N) x1.ak)=A3:=⟨_,rfl⟩
    have HSA:Hid (∀ W,Row W x1.ak (bT.flat x1.Ma)→ld W A3 (bT.flat (x1.Ma.drop N))):=fun W hr=>by have h5:=qK (K:=bT) (k:=N) (c:=x1.aq) hcap hr; rw [show N * bT.n=N from Nat.mul_one N,hA3] at h5; exact h5
    refine tt 0 HS.I ?_;refine tt 1 HS.I ?_ (hy:=fun w0 hS0=>by obtain ⟨m0,m1,m2,m3,m4⟩:=hS0.1.cells; rw [HG1.I.1] at m3; go_simp; try with_reducible rfl);refine tt 2 HS.I ?_;refine tt 3 HS.I ?_;refine tt 4 HS.I ?_;refine tt 5 HS.I ?_ (hy:=fun w0 hS0=>by have p3:=hS0.2.1; go_simp; try with_reducible rfl);refine tt 6 HS.I ?_;refine tt 8 HS.I ?_;refine tt 9 HS.I ?_ (hy:=fun w0 hS0=>by obtain ⟨v0,v1,v2,v3,v4⟩:=gE hS0.2.2.1; go_simp; try with_reducible rfl);refine tt 10 HS.I ?_;refine tt 11 HS.I ?_;clear hA3
    try simp only [pt,sb,s0,s1]
    have hlow:base≤YI.heap.size:=by have:=HL6.I.kept.size; have:=HH.I.2.2.2; omega
    refine L7 7 (fun Q hQ=> ?_);go_wp2_with fail;have hbA:Below YI.heap.size YI (YI.alloc (.cells #[] 9)):=(Kp _ _).alloc (Ki _) _;refine hQ.out _ _ ⟨(hbA.block _ (J2.1 HS.I.1).1).trans HS.I.1,abU hbA HS.I.2.1,(hbA.block _ (J2.1 HS.I.2.2.1).1).trans HS.I.2.2.1,(hbA.block _ (J2.1 HS.I.2.2.2).1).trans HS.I.2.2.2⟩ (fun _=> ?_);clear hQ Q
    try simp only [pt,sb,s0,s1]
    have hem:((YI.alloc (.cells #[] 9))).ownsRow YI.heap.size 9 1 (.slice (some ⟨YI.heap.size,0,none⟩) ([] :List ByteArray).length 0) ([] :List ByteArray).length (bT.flat []):=i6 (Kj _ _) (Ki _);have hld:(x1.Ma.drop N).length=x1.Ma.length - N:=List.length_drop;obtain ⟨a3,c3,w3,hr3,Bn,hg3,IJ⟩:=ou (YI.alloc (.cells #[] 9)) YI.heap.size _ 0 [] hem A3 (x1.Ma.drop N) (x1.aq - N) (HSA.I _ (pG.I.below hbA)) (by simp only [K4]; omega) hbA.size;simp only [K4,Li,Ll] at hr3 Bn;rw [hld] at hr3;have hb3:Below YI.heap.size YI w3:=hbA.grown hg3 hbA.size (fun g hg=>by simp [Value.ownBlock] at hg; omega);refine L7 12 (fun Q hQ=> ?_);refine cM _ _ 83 rfl _ _ _ w3 (by kernel_rfl) (by kernel_rfl) hr3 ?_;obtain ⟨hLK,hcell,hfro⟩:=HL6.I.Ma hb3 HA6.I.2.1 HA6.I.2.2.2.2.2.1 HG1.I.2 (cq Bn hlow) (fun g hg=>(cf Bn hg).1);rw [hld] at hLK;have HA:Hid ((SqH w k aaB n1 g1 q1 Xs Y8 x1 x2) w3):=⟨(hb3.block _ (J2.1 HS.I.1).1).trans HS.I.1,abU hb3 HS.I.2.1,(hb3.block _ (J2.1 HS.I.2.2.1).1).trans HS.I.2.2.1,(hb3.block _ (J2.1 HS.I.2.2.2).1).trans HS.I.2.2.2⟩
    have HLK:=aA hLK;have HCF:Hid ((∃ u,w3.cell? ⟨g1,j1 * 5+4,none⟩=some u)∧w3.frozen? ⟨g1,j1 * 5+4,none⟩=false):=⟨hcell,hfro⟩
    clear hLK hcell hfro;refine hQ.out _ _ HA.I (fun _=> ?_);clear hQ Q
    try simp only [pt,sb,s0,s1]
    refine tt 13 HA.I ?_;refine tt 14 HA.I ?_;refine L7 15 (fun Q hQ=> ?_);obtain ⟨⟨u,hu⟩,hfz⟩:=HCF.I;clear hr3 Bn hg3 IJ hb3 hbA hem;go_wp2_with fail;clear hu hfz;refine hQ.out _ _ ⟨(ac5 _ _ _ _ HI.I.2.2.2).trans HA.I.1,(J1 (ac5 _ _ _ _ HI.I.1)).trans HA.I.2.1,(ac5 _ _ _ _ HI.I.2.1).trans HA.I.2.2.1,(ac5 _ _ _ _ HI.I.2.2.1).trans HA.I.2.2.2⟩ (fun _=> ?_);clear hQ Q HA HS HI pG k0 k1 k2 k3 hlow hld;generalize w3.setCell ⟨g1,j1 * 5+4,none⟩ (.slice a3 (x1.Ma.length - N) c3)=W7 at *;clear HCF;refine K3 (by kernel_rfl) ?_ _;have hL7:=HLK.I;clear HLK HL6;obtain ⟨aaW,haM⟩: ∃ aaW,aaW=a3:=⟨_,rfl⟩
    subst haM;obtain ⟨abf,hcM⟩: ∃ abf,abf=c3:=⟨_,rfl⟩
    subst hcM;have HP7:Hid ((l6.set n1 (abS q1 j1 x1 (x1.Ma.drop N) aaW abf)).map (·.pure)=abM (l.map (·.pure)) c):=by
     show _=_
     rw [acr HA6.I.1 HA6.I.2.1 HA6.I.2.2.1 HA6.I.2.2.2.2.1 HA6.I.2.2.2.2.2.1 HA6.I.2.2.2.2.2.2,HP6.I];unfold abM;rw [HE.I.1,HE.I.2.1];simp only [HNN.I.2,HNN.I.1,if_true]
    have HL7:Hid (abx w base k (l6.set n1 (abS q1 j1 x1 (x1.Ma.drop N) aaW abf)) (Y6 w k) W7):=hL7.less fun x hx=>by simp only [Kt] at hx ⊢; exact .inr (.inr (.inr hx))
    clear hL7;generalize l6.set n1 (abS q1 j1 x1 (x1.Ma.drop N) aaW abf)=dw at *;have HC7:Hid (abz k.pure.parts (dw.map (·.pure))):=by show abz _ _; rw [HP7.I]; exact HP.I.2.carry (HH.I.2.1 c (KA HC.I))
    go_wp2;go_roundw
    case rel=>exact ⟨n+1,by omega,by go_num,dw,HL7.I,HP7.I.trans Jf.I.symm,HC7.I⟩
    case measure=>simp [Go.RowKit.intOf]; omega
  ·have i1: ¬ (n:Int) < (k.eC.length:Int):=by omega
   have ek:n=k.eC.length:=by omega
   subst ek;have hz0:wr.heap[w.heap.size+1]? =some (.cells T9 37 (0,0)):=(S.I.1.box (w.heap.size+1,T9,37) (by simp)).1;have hzn:=(S.I.1.box (w.heap.size+1,T9,37) (by simp)).2;have HZN:=aA hzn;clear hzn;go_wp2_with (refine stK 4 130 k.row hz0 ?_ (hx:=by kernel_rfl) (hy:=by kernel_rfl));refine rtK Tryz.results69 hz0 ?_ (hp:=by kernel_rfl) (hd:=by kernel_rfl);refine ⟨l,rfl,⟨S.I.1.own.same fun g hg=>KH _ _ _ _ (fun e=>HZN.I (e ▸ hg)),S.I.1.len,⟨S.I.1.kept.os,S.I.1.kept.tape,S.I.1.kept.output,by rw [size_setRow]; exact S.I.1.kept.size,fun g hg hn=>(KH _ _ _ _ (by omega)).trans (S.I.1.kept.same g hg hn)⟩,S.I.1.lo,S.I.1.far,fun x hx=>by cases hx⟩,?_,S.I.2.2⟩;have h5:=S.I.2.1;rw [List.take_length] at h5;exact h5
end
section
open Go.RowKit Go.Maps
attribute [local go_sem ↓] Kc Kd
def abJ (k:kd) (id:Int):Option kd:=if eP k=true∧(hP (fun p:aE=>p.id) id k.parts).isSome=true then some { k with parts:=abI id k.parts k.eC } else none
theorem acv {k:kd} {id:Int} (h:eP k=false):abJ k id=none:=if_neg fun hh=>by rw [h] at hh; cases hh.1
theorem acy {k:kd} {id:Int} (h:hP (fun p:aE=>p.id) id k.parts=none):abJ k id=none:=if_neg fun hh=>by rw [h] at hh; cases hh.2
theorem acw {k:kd} {id:Int} {p:aE} (h:eP k=true) (hp:hP (fun p:aE=>p.id) id k.parts=some p):abJ k id=some { k with parts:=abI id k.parts k.eC } :=if_pos ⟨h,by rw [hp]; rfl⟩
theorem ab2 {k:kd} (h:eP k=true): ∀ p∈k.parts,∀ q∈p.ai,dj q=true:=fun p hp q hq=>(cK (Ww h p hp).ai q hq).2
theorem ab1 {k:kd} (h:eP k=true): ∀ c∈k.eC,pa k.parts c=true:=by
 simp only [eP,Bool.and_eq_true] at h;exact acM h.2
structure KZK (w:World) (k:eA) (W:World):Prop where
 ks:dr w w.heap.size k W
 I:W.heap[w.heap.size+1]? =some (.cells T9 37 (0,0))
theorem KZK.below {w W W2:World} {k:eA} (h:KZK w k W) (hb:Below W.heap.size W W2):KZK w k W2:=⟨h.ks.below hb,(hb.block _ (J2.1 h.I).1).trans h.I⟩
theorem KZK.first {w:World} {k:eA} (h:eA.At w k):KZK w k ((w.alloc (.cells k.row 37)).alloc (.cells T9 37)):=
 ⟨(dr.first h).below ((Kp _ _).alloc (Ki _) _),heap_alloc2_new _ _ _⟩
theorem acB (k:eA) (id:Int) (g:Nat) (w:World) (hs:k.pure.Small) (hg:k.vb=some ⟨g,0,none⟩∧g < w.heap.size) (h:eA.At w k):
  Calls Go.Proofs.Tryz.prog 19 #[.agg k.row,.int .i64 id] w fun e w'=>KRes w (abJ k.pure id) e w':=by
 have S:=aA (KZK.first h);have HF:=aA (And.intro hs hg);clear hs hg h
 go_enter Tryz.func19,Tryz.ntmps19
 go_upto_region 1 with fail;generalize (w.alloc (.cells k.row 37)).alloc (.cells T9 37)=W0 at *;obtain ⟨m0,m1,m2,m3,m4⟩:=S.I.ks.box.cells;have Mb:=FO k g W0 (Ug HF.I.1) ⟨HF.I.2.1,by have:=S.I.ks.low.size; have:=HF.I.2.2; omega⟩ S.I.ks.MT;go_wp2_with fail;clear m0 m1 m2 m3 m4;refine Mb.mono ?_;clear Mb;rintro e W1 ⟨rfl,hb1⟩;replace S:=aA (S.I.below hb1);clear hb1;cases hk:eP k.pure
 ·have HN:Hid (abJ k.pure id=none):=acv hk
  clear hk;go_wp2_with (refine stK 4 15 T9 S.I.I ?_);refine aaf Tryz.results19 (.bool false) S.I.I ?_;exact Zv HN.I (kz S.I.ks.low (by omega) _)
 have HK:=aA hk;clear hk;obtain ⟨m0,m1,m2,m3,m4⟩:=S.I.ks.box.cells;have Mb:=Ua k id W1 (Ug HF.I.1).sC S.I.ks.MT;go_wp2_with fail;clear m0 m1 m2 m3 m4;refine Mb.mono ?_;clear Mb;rintro e W2 ⟨rfl,hb1⟩;replace S:=aA (S.I.below hb1);clear hb1;rcases ua (num:=fun p:af=>p.id) id k.parts 0 with ⟨h1,h2⟩ | ⟨n,x,h1,hx,-,h2⟩
 ·have HN:Hid (abJ k.pure id=none):=acy (by show hP (fun p:aE=>p.id) id (k.parts.map (·.pure))=none; rw [WJ,h2]; rfl)
  rw [h1];clear h1 h2;go_wp2_with (refine stK 4 15 T9 S.I.I ?_);refine aaf Tryz.results19 (.bool false) S.I.I ?_;exact Zv HN.I (kz S.I.ks.low (by omega) _)
 have HN:Hid (abJ k.pure id=some { k.pure with parts:=abI id k.pure.parts k.pure.eC }):=acw HK.I (p:=x.pure) (by show hP (fun p:aE=>p.id) id (k.parts.map (·.pure))=_; rw [WJ,h2]; rfl);rw [h1];have i0: ¬ ((0+n:Nat):Int) < 0:=by omega
 clear h1 h2 hx;obtain ⟨m0,m1,m2,m3,m4⟩:=S.I.ks.box.cells;have Mb:=aaz k W2 (Ug HF.I.1) S.I.ks.MT;go_wp2_with fail;clear m0 m1 m2 m3 m4 i0;refine Mb.mono ?_;clear Mb;rintro e W3 ⟨k3,g3,rfl,Bn,wu,-,hb3⟩;have HO:Hid (gp W3 W2.heap.size k3∧k3.pure=k.pure∧W2.heap.size≤W3.heap.size∧w.heap.size+1 < W2.heap.size):=⟨Bn,wu,hb3.size,(J2.1 S.I.I).1⟩
 replace S:=aA (S.I.below hb3);clear Bn wu hb3;have Mb:=acP k3 id W2.heap.size W3 (by rw [HO.I.2.1]; exact HF.I.1) (by rw [HO.I.2.1,show k3.eC=k.pure.eC from congrArg kd.eC HO.I.2.1]; exact ab1 HK.I) (by rw [HO.I.2.1]; exact ab2 HK.I) HO.I.2.2.1 HO.I.1;go_wp2_with fail;refine Mb.mono ?_;clear Mb;rintro e W4 ⟨l,rfl,hL,hpl,hcr⟩;have HL:Hid (abx W3 W2.heap.size k3 l [] W4∧l.map (·.pure)=abI id k.pure.parts k.pure.eC):=⟨hL,by rw [hpl,HO.I.2.1,show k3.eC=k.pure.eC from congrArg kd.eC HO.I.2.1]⟩
 have hlow: ∀ b∈k3.Mc,W2.heap.size≤b:=fun b hb=>(HO.I.1.lt hb).1
 have hsz:=HO.I.2.2;have HW4:Hid (W4.heap[w.heap.size+1]? =some (.cells T9 37 (0,0))∧Below w.heap.size w W4):=⟨(hL.kept.same _ (by omega) fun hm=>by have:=hlow _ hm; omega).trans S.I.I,S.I.ks.low.trans (hL.kept.below S.I.ks.low.size fun b hb=>by have:=hlow b hb; omega)⟩
 clear hL hpl hcr hlow hsz;go_wp2_with (refine stK 4 19 k3.row HW4.I.1 ?_);refine aaf Tryz.results19 (.bool true) HW4.I.1 ?_;rw [HN.I];have hsz:=HO.I.2.2;refine ⟨k3.wp l,by rw [HL.I.1.row]; rfl,(HL.I.1.own.lower (by omega)).same fun b hb=>KH _ _ _ _ (by have:=(HL.I.1.own.lt hb).1; omega),?_,kz HW4.I.2 (by omega) _⟩
 show kd.mk k3.now k3.major k3.fn (l.map (·.pure)) k3.eC=kd.mk k.pure.now k.pure.major k.pure.fn (abI id k.pure.parts k.pure.eC) k.pure.eC
 rw [HL.I.2,← HO.I.2.1];rfl
end
end Go.Proofs.YteidkehoekbcaaaGreat
