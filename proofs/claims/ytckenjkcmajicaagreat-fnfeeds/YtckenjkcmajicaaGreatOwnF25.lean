/- What the proof leans on, part 25. -/
import Derived.Test.YtckenjkcmajicaaGreatOwnF24
set_option linter.all false
set_option maxRecDepth 100000
set_option maxHeartbeats 8000000
open Go.Proofs.Tryz
open Go renaming World->w_,Value->v_,Calls->k_,Addr->d_
open Go.Ending renaming returned->r_
open Go.IntKind renaming i64->j_
open Go.Obj renaming cells->c_
open Go.RowKit renaming Below->B_,Hid->bN
open Go.Value renaming int->i_,slice->s_,bool->b_,agg->a_,pointer->p_,tuple->u_
open Option renaming some->o_,none->n_
open Go renaming wp_at_succ->Kd,wp_at_zero->Kc
open Go.Proofs.Tryz renaming prog->J3
open Go.RowKit.Below renaming heap_alloc->adD
open List renaming getElem_cons_succ->K1,getElem_cons_zero->K0,getElem_toArray->KZ

open Go.RowKit
namespace Go.Proofs.YtckenjkcmajicaaGreat
open Go.Maps
attribute [local go_sem ↓] Kc Kd
def allK : List eQ := [⟨1, 1, 2, 2⟩, ⟨2, 3, 3, 4⟩, ⟨3, 1, 1, 2⟩, ⟨1, 3, 2, 4⟩]
abbrev apg : Array v_ := #[i_ j_ 1,i_ j_ 1,i_ j_ 2,i_ j_ 2,i_ j_ 2,i_ j_ 3,i_ j_ 3,i_ j_ 4,i_ j_ 3,i_ j_ 1,i_ j_ 1,i_ j_ 2,i_ j_ 1,i_ j_ 3,i_ j_ 2,i_ j_ 4]
def aqq {W : w_} {G n : Nat} (h : W.heap[G]? = o_ (c_ apg 37)) (hn : n < 4) : ∃ x : eQ, x.Wf /\ eQ.At W G n x /\ allK[n]? = o_ x := by
  rcases n with _ | _ | _ | _ | _
  . exact ⟨⟨1, 1, 2, 2⟩, ⟨rfl, rfl, rfl, rfl⟩, by simp [eQ.At, World.cell?, h], rfl⟩
  . exact ⟨⟨2, 3, 3, 4⟩, ⟨rfl, rfl, rfl, rfl⟩, by simp [eQ.At, World.cell?, h], rfl⟩
  . exact ⟨⟨3, 1, 1, 2⟩, ⟨rfl, rfl, rfl, rfl⟩, by simp [eQ.At, World.cell?, h], rfl⟩
  . exact ⟨⟨1, 3, 2, 4⟩, ⟨rfl, rfl, rfl, rfl⟩, by simp [eQ.At, World.cell?, h], rfl⟩
  . omega
section
variable {r len cap X Y : Nat} {a : Option d_} {w W : w_} {k : eA}
def aoy.aqg (h : aoy r a len cap w X k W) (hz : W.heap[Y]? = o_ (c_ T9 30)) (hy : X < Y) (hk : Y ∉ k.Mc) (n : Int) :
    k_ J3 59 #[a_ k.row,i_ j_ n] W fun e W2 => ∃ (q : eA) (ok : Bool), e =r_ (u_ #[a_ q.row,b_ ok]) /\ apU r a len cap w X k Y q ok T9 W2 := by
  obtain ⟨g, hg⟩ := h.win;exact (ao0 k n g W h.small hg h.own.at).mono fun e W2 hr => h.ran1 hz hy hk hr
def aoy.aqp (h : aoy r a len cap w X k W) (n : Int) :
    k_ J3 59 #[a_ k.row,i_ j_ n] W fun e W2 => ∃ (q : eA) (ok : Bool), e =r_ (u_ #[a_ q.row,b_ ok]) /\ Tk W2 X k /\ apU r a len cap w X k W2.heap.size q ok T9 (W2.alloc (c_ T9 30)) := by
  obtain ⟨g, hg⟩ := h.win;exact (ao0 k n g W h.small hg h.own.at).mono fun e W2 hr => h.ran2 hr
def aoy.boxed (h : aoy r a len cap w X k W) : aoy r a len cap w X k (W.alloc (c_ T9 30)) /\ (W.alloc (c_ T9 30)).heap[W.heap.size]? = o_ (c_ T9 30) /\ X < W.heap.size /\ W.heap.size ∉ k.Mc :=
  ⟨h.reads ((Kp _ _).alloc (Ki _) _), Kj _ _, h.lt, fun hm => by have := (h.own.lt hm).2; omega⟩
end
def ap6 (r : Nat) (a : Option d_) (len cap : Nat) (w : w_) (hl : len <= 1048576) (h : Rd r a len cap w) :
    k_ J3 32 #[p_ (o_ ⟨r, 0, n_⟩)] w fun e w' => ∃ k : eA, e =r_ (a_ k.row) /\ gp w' w.heap.size k /\ k.pure.Small /\ (∃ g, k.vb = o_ ⟨g, 0, n_⟩ /\ g < w'.heap.size) /\ gG r w w' /\ Rd r a len cap w' := by
  have h5 := (Kp w.heap.size w).alloc (Ki _) (c_ T9 30);have S : bN (Rd r a len cap w /\ Rd r a len cap (w.alloc (c_ T9 30)) /\ gG r w (w.alloc (c_ T9 30)) /\ (w.alloc (c_ T9 30)).heap[w.heap.size]? = o_ (c_ T9 30) /\ (w.alloc (c_ T9 30)).heap.size = w.heap.size + 1) := ⟨h, h.below h5, gG.dI h5, Kj _ _, by simp⟩
  clear h h5
  go_enter func32, ntmps32
  go_upto_region 1 with fail;generalize w.alloc (c_ T9 30) = A at *;go_wp2_with fail;refine (apH r a len cap A hl S.I.2.1).mono ?_;rintro e A2 ⟨major, g, n, c, xs, rfl, hn, hs, ho, hb, hr⟩;have VH : bN (∃ l : List pA, l.length = n /\ aoy r a len cap w A2.heap.size ⟨0, major, l, o_ ⟨g, 0, n_⟩, c, [], n_, 0, [], n_, 0⟩ ((A2.alloc (c_ T9 30)).setRow A2.heap.size #[i_ j_ 0,i_ j_ major,s_ (o_ ⟨g, 0, n_⟩) n c,s_ n_ 0 0,s_ n_ 0 0])) := by
    have hz := S.I.2.2.2.2;have hrl := S.I.1.lt;rw [hz] at ho;exact aoy.first hr S.I.1 (S.I.2.2.1.trans hb) hn hs ho ((hb.block _ zw zw).trans S.I.2.2.2.1)
  clear hs hn ho hb hr S;go_upto_region 2 with (refine stK 3 11 #[i_ j_ 0,i_ j_ major,s_ (o_ ⟨g, 0, n_⟩) n c,s_ n_ 0 0,s_ n_ 0 0] (Kj _ _) ?_);generalize (A2.alloc (c_ T9 30)).setRow A2.heap.size #[i_ j_ 0,i_ j_ major,s_ (o_ ⟨g, 0, n_⟩) n c,s_ n_ 0 0,s_ n_ 0 0] = B at *;generalize A2.heap.size = X at *;go_wp2_with fail
  go_loopw [4] (fun i wr => ∃ (n : Nat) (k : eA), i =i_ j_ ((n : Int) + 1) /\ n <= 3 /\ bN (aoy r a len cap w X k wr /\ k.parts.length = n /\ k.eC.length = 0 /\ k.qi = n_)) (fun i _ => (4 - Go.RowKit.intOf i).toNat)
  case atStart =>
    obtain ⟨l, -, hD⟩ := VH.I;exact ⟨0, _, rfl, by omega, hD, rfl, rfl, rfl⟩
  case round =>
    clear VH;obtain ⟨n, k, rfl, hn, HD⟩ := hrel;by_cases hlt : n < 3
    . have i1 : (n : Int) + 1 <= 3 := by omega
      have HI : bN (cv ((n : Int) + 1) 1 6 = true) := bz.2 ⟨zw, by omega⟩;go_upto_region 5 with fail;have c3 := HD.I.1.box.cells.2.2.2.1
      go_region_law ((first
        | (rw [if_pos (by rfl)]
           obtain ⟨a', c', w', hap, hkb, hdk⟩ := HP.I.2;refine cM _ _ 27 rfl _ _ _ w' rfl rfl hap ?_;have HE := aA hdk;have c3 := hkb.cells.2.2.2.1;have u3 : w'.frozen? ⟨X, 3, n_⟩ = false := Ko _ _ _ _ _ hkb;clear hap hkb hdk)
        | (go_simp
           go_at_call 57
           refine (FL r a len cap _ _ hl HI.I (Rd.below HD.I.1.rd (Kp _ _).drew)).mono ?_;rintro e W5 ⟨q, rfl, ho, hs, -, hb, hr⟩;have HP : bN (Tk W5 X k /\ ∃ a' c' w', (Builtin.append_ #[27, 27] 27 #[s_ k.qn k.parts.length k.sa,s_ (o_ ⟨W5.heap.size, 0, n_⟩) 1 1]).run J3 (W5.alloc (c_ q.cells 46)) = .ok (s_ a' (k.parts.length + 1) c') w' /\ Tk w' X k /\ aoy r a len cap w X { k with parts := k.parts ++ [q], qn := a', sa := c' } (w'.setCell ⟨X, 3, n_⟩ (s_ a' (k.parts.length + 1) c'))) := ⟨(HD.I.1.drawn hb.alc hr).box, HD.I.1.part hb.alc hr ho hs (by have := HD.I.2.1; omega)⟩
           have c5 := HP.I.1.cells.2.2.2.1;have c6 := Tk.cells (show Tk (W5.alloc (c_ q.cells 46)) X k from (adD _ _ _ (by have := (HD.I.1.drawn hb.alc hr).lt; omega)).trans HP.I.1);replace c6 := c6.2.2.2.1
           try simp only [af.cells] at c6
           clear ho hs hb hr
           try simp only [af.cells])))
      all_goals
        clear c3 c5 c6 u3;generalize World.setCell _ _ _ = V at *;go_wp2_with fail;go_roundw
        case rel => exact ⟨n + 1, _, by go_num, by omega, HE.I, by have := HD.I.2.1; simp; omega, HD.I.2.2⟩
        case measure => simp [Go.RowKit.intOf]; omega
    . have i1 : ¬ (n : Int) + 1 <= 3 := by omega
      go_upto_region 7 with fail;have HC : bN (aoy r a len cap w X k (wr.alloc (c_ apg 37)) /\ (wr.alloc (c_ apg 37)).heap[wr.heap.size]? = o_ (c_ apg 37) /\ k.eC.length = 0 /\ blk k.qi = [] /\ X < wr.heap.size) := ⟨HD.I.1.reads ((Kp _ _).alloc (Ki _) _), Kj _ _, HD.I.2.2.1, by rw [HD.I.2.2.2]; rfl, HD.I.1.lt⟩
      clear HD i1 hn hlt;generalize wr.alloc (c_ apg 37) = C at *;generalize wr.heap.size = G at *;go_wp2_with fail
      go_loopw [6] (fun i wr => ∃ (n : Nat) (k : eA), i =i_ j_ n /\ n <= 4 /\ bN (aoy r a len cap w X k wr /\ wr.heap[G]? = o_ (c_ apg 37) /\ k.eC.length <= n /\ (∀ g ∈ blk k.qi, G < g) /\ X < G)) (fun i _ => (4 - Go.RowKit.intOf i).toNat)
      case atStart => exact ⟨0, k, rfl, by omega, HC.I.1, HC.I.2.1, by have := HC.I.2.2.1; omega, (fun g hg => by rw [HC.I.2.2.2.1] at hg; cases hg), HC.I.2.2.2.2⟩
      case round =>
        obtain ⟨u7, hko⟩ : ∃ u7 : eA, u7 = k := ⟨_, rfl⟩
        subst hko;clear HC;obtain ⟨n, k, rfl, hn, HD⟩ := hrel;by_cases hlt : n < 4
        . have i0 : (0 : Int) <= (n : Int) := by omega
          have i1 : (n : Int) < 4 := by omega
          go_wp2_with fail;refine (jt r a len cap 2 _ hl zw zw HD.I.1.rd).mono ?_;rintro e W1 ⟨v, rfl, hb, hr⟩;have HD1 : bN (aoy r a len cap w X k W1 /\ W1.heap[G]? = o_ (c_ apg 37)) := ⟨HD.I.1.drawn hb hr, (hb.block _ (J2.1 HD.I.2.1).1 (by have := HD.I.1.st.lt; have := HD.I.1.hx; have := HD.I.2.2.2.2; omega)).trans HD.I.2.1⟩
          clear hb hr;cases v with
          | false =>
            go_wp2_with fail;go_roundw
            case rel => exact ⟨n + 1, k, by go_num, by omega, HD1.I.1, HD1.I.2, by have := HD.I.2.2.1; omega, HD.I.2.2.2⟩
            case measure => simp [Go.RowKit.intOf]; omega
          | true =>
            go_upto_region 11 with fail;obtain ⟨x, hx, ⟨y0, y1, y2, y3⟩, -⟩ := aqq HD1.I.2 hlt;have HN : bN (∃ a' c' w', (Builtin.append_ #[28, 28] 28 #[s_ k.qi k.eC.length k.tC,s_ (o_ ⟨W1.drew.heap.size, 0, n_⟩) 1 1]).run J3 (W1.drew.alloc (c_ (nx x) 37)) = .ok (s_ a' (k.eC.length + 1) c') w' /\ Tk w' X k /\ aoy r a len cap w X { k with eC := k.eC ++ [x], qi := a', tC := c' } (w'.setCell ⟨X, 4, n_⟩ (s_ a' (k.eC.length + 1) c')) /\ w'.heap[G]? = o_ (c_ apg 37) /\ ∀ g ∈ blk a', G < g) := by
              have hbd : B_ W1.heap.size W1 W1.drew := (Kp _ _).drew;obtain ⟨a', c', w', h1, h2, h3, h4, h5⟩ := HD1.I.1.chan (gG.dI hbd) (HD1.I.1.rd.below hbd) hx (by have := HD.I.2.2.1; omega);have hG := (J2.1 HD1.I.2).1;have hlow := HD.I.2.2.2.1;exact ⟨a', c', w', h1, h2, h3, (h4 G hG fun hm => by have := hlow G hm; omega).trans HD1.I.2, fun g hg => (h5 g hg).elim (hlow g) fun h6 => Kn hG h6⟩
            clear hx;have c4 := HD1.I.1.box.cells.2.2.2.2;have c6 := Tk.cells (show Tk (W1.alloc (c_ (nx x) 37)) X k from (adD _ _ _ HD1.I.1.lt).trans HD1.I.1.box);replace c6 := c6.2.2.2.2
            go_region_law ((first
              | (rw [if_pos (by rfl)]
                 obtain ⟨a', c', w', hap, hkb, hdk⟩ := HN.I;refine cM _ _ 28 rfl _ _ _ w' rfl rfl hap ?_;have HE := aA hdk;have c3 := hkb.cells.2.2.2.2;have u3 : w'.frozen? ⟨X, 4, n_⟩ = false := Ko _ _ _ _ _ hkb;clear hap hkb hdk)))
            all_goals
              clear c3 c4 c6 u3 y0 y1 y2 y3;have HF : bN ((w'.setCell ⟨X, 4, n_⟩ (s_ a' (k.eC.length + 1) c')).heap[G]? = o_ (c_ apg 37)) := (aH (by have := HD.I.2.2.2.2; omega)).trans HE.I.2.1;generalize World.setCell _ _ _ = V at *;go_wp2_with fail;go_roundw
              case rel => exact ⟨n + 1, _, by go_num, by omega, HE.I.1, HF.I, by have := HD.I.2.2.1; simp; omega, HE.I.2.2, HD.I.2.2.2.2⟩
              case measure => simp [Go.RowKit.intOf]; omega
        . have i1 : ¬ (n : Int) < 4 := by omega
          go_upto_region 12 with fail;have HL : bN (k.eC.length <= 10) := by have := HD.I.2.2.1; exact (by omega : k.eC.length <= 10)
          replace HD := aA HD.I.1;clear i1 hn hlt
          go_cut [7, 8] from 46 (fun s7 s8 wx => ∃ (Y : Nat) (q : eA) (ok : Bool), s7 =p_ (o_ ⟨Y, 0, n_⟩) /\ s8 =b_ ok /\ bN (apU r a len cap w X k Y q ok q.row wx))
          case first =>
            replace HD := aA (HD.I.reads (Kp _ _).drew);refine Kr (S := fun W => Tk W X k) ZbY HD.I.box (fun _ => ?_);generalize World.drew _ = V at *;refine tt 0 HD.I.box ?_ (hy := fun w0 hS0 => by obtain ⟨m0, m1, m2, m3, m4⟩ := hS0.cells; go_simp; try with_reducible rfl);refine tt 1 HD.I.box ?_;refine KW (rs := [2, 7]) ZbY zy ?_;refine KX rfl (fun K hK => ?_) (KX rfl (fun K hK => ?_) KY)
            focus
              simp only [KZ, K0, K1];rw [if_pos (by rfl)];go_wp2_with fail;refine (dh r a len cap 30 _ hl zw zw HD.I.rd).mono ?_;rintro e W1 ⟨u, -, -, rfl, hb1, hr1⟩;replace HD := aA (HD.I.drawn hb1 hr1);clear hb1 hr1;refine hK.out _ _ HD.I.box (fun _ => ?_);clear hK K
              try simp only [pt, sb, s0, s1]
              refine KW (rs := [3, 7]) ZbY zy ?_;refine KX rfl (fun K hK => ?_) (KX rfl (fun K hK => ?_) KY)
              focus
                simp only [KZ, K0, K1];rw [if_pos (by rfl)];go_wp2_with fail;refine (HD.I.aqp u).mono ?_;rintro e W2 ⟨q, ok, rfl, hkb, hR⟩;have HR := aA hR;refine hK.out _ _ hkb (fun _ => ?_);clear hK K
                try simp only [pt, sb, s0, s1]
                refine tt 4 hkb ?_;refine tt 5 hkb ?_;refine tt 6 hkb ?_;refine L7 7 (fun K hK => ?_);clear hkb hR;go_wp2_with fail;generalize W2.alloc (c_ T9 30) = W3 at *;generalize W2.heap.size = Y at *;refine hK.out _ _ HR.I.dk.box (fun _ => ?_);clear hK K
                try simp only [pt, sb, s0, s1]
              rotate_left
              focus
                simp only [KZ, K0, K1];rw [if_pos (by rfl)];go_wp2_with fail;have HZ := aA HD.I.boxed;generalize W1.alloc (c_ T9 30) = W2 at *;generalize W1.heap.size = Y at *;refine hK.out _ _ HZ.I.1.box (fun _ => ?_);clear hK K
                try simp only [pt, sb, s0, s1]
                refine L7 3 (fun K hK => ?_);go_wp2_with fail;refine (HZ.I.1.aqg HZ.I.2.1 HZ.I.2.2.1 HZ.I.2.2.2 u).mono ?_;rintro e W3 ⟨q, ok, rfl, hR⟩;have HR := aA hR;clear hR;refine hK.out _ _ HR.I.dk.box (fun _ => ?_);clear hK K
                try simp only [pt, sb, s0, s1]
                refine tt 4 HR.I.dk.box ?_;refine tt 5 HR.I.dk.box ?_;refine tt 6 HR.I.dk.box ?_
            rotate_left 2
            focus
              simp only [KZ, K0, K1];rw [if_pos (by rfl)];go_wp2_with fail;have HZ := aA HD.I.boxed;generalize V.alloc (c_ T9 30) = W1 at *;generalize V.heap.size = Y at *;refine hK.out _ _ HZ.I.1.box (fun _ => ?_);clear hK K
              try simp only [pt, sb, s0, s1]
              refine L7 2 (fun K hK => ?_);go_wp2_with fail;refine (dh r a len cap 30 _ hl zw zw HZ.I.1.rd).mono ?_;rintro e W2 ⟨u, -, -, rfl, hb1, hr1⟩;have iP : bN (aoy r a len cap w X k W2 /\ W2.heap[Y]? = o_ (c_ T9 30) /\ X < Y /\ Y ∉ k.Mc) := ⟨HZ.I.1.drawn hb1 hr1, (hb1.block _ (J2.1 HZ.I.2.1).1 (by have := HD.I.st.lt; have := HD.I.hx; have := HZ.I.2.2.1; omega)).trans HZ.I.2.1, HZ.I.2.2⟩
              clear hb1 hr1;refine hK.out _ _ iP.I.1.box (fun _ => ?_);clear hK K
              try simp only [pt, sb, s0, s1]
              refine L7 3 (fun K hK => ?_);go_wp2_with fail;refine (iP.I.1.aqg iP.I.2.1 iP.I.2.2.1 iP.I.2.2.2 u).mono ?_;rintro e W3 ⟨q, ok, rfl, hR⟩;have HR := aA hR;clear hR;refine hK.out _ _ HR.I.dk.box (fun _ => ?_);clear hK K
              try simp only [pt, sb, s0, s1]
              refine tt 4 HR.I.dk.box ?_;refine tt 5 HR.I.dk.box ?_;refine tt 6 HR.I.dk.box ?_
            all_goals
              refine L7 8 (fun K hK => ?_);refine LY 30 (.tmp 7) (.tmp 51) rfl Y q.row rfl rfl _ _ HR.I.box ZbY rfl ZbY ?_;replace HR := aA (HR.I.put (c2 := q.row));refine hK.out _ _ HR.I.dk.box (fun _ => ?_);clear hK K;refine tt 9 HR.I.dk.box ?_;refine K3 ZbY ?_ _;go_wp2_with fail;go_meet;exact ⟨Y, q, ok, rfl, rfl, HR⟩
          case rest =>
            clear HD;obtain ⟨Y, q, ok, rfl, rfl, HR⟩ := hcut
            go_upto_if 53 with fail
            go_cut [] from 46 (fun wx => ∃ k2 : eA, bN (aoy r a len cap w X k2 wx /\ k2.eC.length <= 10))
            case first =>
              cases ok with
              | false =>
                go_wp2_with fail;go_meet;exact ⟨k, HR.I.dk, HL.I⟩
              | true =>
                obtain ⟨m0, m1, m2, m3, m4⟩ := Tk.cells HR.I.box;go_wp2_with (refine stK 3 54 q.row HR.I.dk.box ?_);go_meet;obtain ⟨h1, h2, h3, h4⟩ := HR.I.good rfl;exact ⟨q, HR.I.dk.ju h1 h2 h4, h3⟩
            case rest =>
              clear HR HL;obtain ⟨kc, hkc⟩ : ∃ kc : eA, kc = k := ⟨_, rfl⟩
              subst hkc;obtain ⟨k, HK⟩ := hcut;go_wp2_with fail;refine (dh r a len cap 40 _ hl zw zw HK.I.1.rd).mono ?_;rintro e YI ⟨u, an3, ub, rfl, hb, hr⟩;replace HK := aA (And.intro (HK.I.1.drawn hb hr) HK.I.2);clear hb hr;by_cases h38 : u = 38
              . have e1 : (u == 38) = true := by simp [h38]
                clear h38;go_upto_region 17 with fail;clear e1 an3 ub;have c4 := HK.I.1.box.cells.2.2.2.2
                go_region_law ((first
                  | (have hz2 := iP.I
                     rw [if_pos (by rfl)];obtain ⟨a', c', w', hap, hkb, hdk, -⟩ := HK.I.1.chan (x := ⟨u1, z1, u2, z2⟩) (gG.refl _ _) HK.I.1.rd ⟨HU1.I, rc.I, HU2.I, hz2⟩ (by have := HK.I.2; omega);refine cM _ _ 28 rfl _ _ _ w' rfl rfl hap ?_;obtain ⟨k3, HE⟩ : ∃ k3, bN (aoy r a len cap w X k3 (w'.setCell ⟨X, 4, n_⟩ (s_ a' (k.eC.length + 1) c'))) := ⟨_, hdk⟩
                     have c3 := hkb.cells.2.2.2.2;have u3 : w'.frozen? ⟨X, 4, n_⟩ = false := Ko _ _ _ _ _ hkb;clear hap hkb hdk hz2)
                  | (have hu2 := HU2.I
                     clear hu2
                     go_simp
                     go_at_call 33
                     refine (Gk r a len cap 1 4 _ hl zw zw zw HK.I.1.rd).mono ?_;rintro e V4 ⟨z2, rfl, hz, hb, hr⟩;replace HK := aA (And.intro (HK.I.1.drawn hb hr) HK.I.2);have iP : bN ((Lit.int j_ z2).wf = true) := hz;have c4 := HK.I.1.box.cells.2.2.2.2;have c6 := Tk.cells (show Tk (V4.alloc (c_ #[i_ j_ u1,i_ j_ z1,i_ j_ u2,i_ j_ z2] 37)) X k from (adD _ _ _ HK.I.1.lt).trans HK.I.1.box);replace c6 := c6.2.2.2.2;clear hz hb hr)
                  | (have hz1 := rc.I
                     clear hz1
                     go_simp
                     go_at_call 60
                     refine (dh r a len cap 4 _ hl zw zw HK.I.1.rd).mono ?_;rintro e V3 ⟨u2, an3, ub, rfl, hb, hr⟩;replace HK := aA (And.intro (HK.I.1.drawn hb hr) HK.I.2);have HU2 : bN ((Lit.int j_ u2).wf = true) := pT zw zw;have c4 := HK.I.1.box.cells.2.2.2.2;clear an3 ub hb hr)
                  | (have hu1 := HU1.I
                     clear hu1
                     go_simp
                     go_at_call 33
                     refine (Gk r a len cap 1 4 _ hl zw zw zw HK.I.1.rd).mono ?_;rintro e V2 ⟨z1, rfl, hz, hb, hr⟩;replace HK := aA (And.intro (HK.I.1.drawn hb hr) HK.I.2);have rc : bN ((Lit.int j_ z1).wf = true) := hz;have c4 := HK.I.1.box.cells.2.2.2.2;clear hz hb hr)
                  | (go_simp
                     go_at_call 60
                     refine (dh r a len cap 4 _ hl zw zw (HK.I.1.rd.below (Kp _ _).drew)).mono ?_;rintro e V1 ⟨u1, an3, ub, rfl, hb, hr⟩;replace HK := aA (And.intro (HK.I.1.drawn hb.alc hr) HK.I.2);have HU1 : bN ((Lit.int j_ u1).wf = true) := pT zw zw;have c4 := HK.I.1.box.cells.2.2.2.2;clear an3 ub hb hr)))
                all_goals
                  clear c3 c4 c6 u3;generalize World.setCell _ _ _ = V at *;obtain ⟨m0, m1, m2, m3, m4⟩ := HE.I.box.cells;go_wp2_with (refine stK 2 78 _ HE.I.mK ?_);refine rtK results32 HE.I.mK ?_;exact ⟨_, rfl, HE.I.fin⟩
              have e1 : (u == 38) = false := by simp [h38]
              clear h38;by_cases h39 : u = 39
              . have e2 : (u == 39) = true := by simp [h39]
                clear h39;go_wp2_with fail;refine (Gk r a len cap 0 9 _ hl zw zw zw HK.I.1.rd).mono ?_;rintro e V1 ⟨z, rfl, -, hb, hr⟩;replace HK := aA (HK.I.1.drawn hb hr);obtain ⟨k3, HE⟩ : ∃ k3, bN (aoy r a len cap w X k3 (V1.setCell ⟨X, 0, n_⟩ (i_ j_ z))) := ⟨_, HK.I.time⟩
                have c0 := HK.I.box.cells.1;have u0 : V1.frozen? ⟨X, 0, n_⟩ = false := Ko _ _ _ _ _ HK.I.box;clear hb hr;go_upto_region 20 with fail;clear c0 u0;generalize World.setCell _ _ _ = V at *;exact Zay
              have e2 : (u == 39) = false := by simp [h39]
              clear h39;have HE := aA HK.I.1;exact Zay
end Go.Proofs.YtckenjkcmajicaaGreat

namespace Go.Proofs.YtckenjkcmajicaaGreat
open Go.Maps
attribute [local go_sem ↓] Kc Kd
structure aoB (a:Option d_) (len cap:Nat) (w:w_) (X:Nat) (k:eA) (W:w_):Prop where
 rd:Rd (w.heap.size+1) a len cap W
 low:B_ w.heap.size w W
 own:gp W (w.heap.size+2) k
 small:k.pure.Small
 win: ∃ g,k.vb=o_ ⟨g,0,n_⟩/\g < W.heap.size
 box:Tk W X k
 mK:W.heap[w.heap.size]? =o_ (c_ T9 30)
 hx:w.heap.size+1 < X
section
variable {len cap X:Nat} {a:Option d_} {w W W2:w_} {k:eA}
def aoB.drawn (h:aoB a len cap w X k W) (hb:gG (w.heap.size+1) W W2) (hr:Rd (w.heap.size+1) a len cap W2):aoB a len cap w X k W2:=by
 have hx:=h.hx;have hl:=(J2.1 h.box).1;have hs:=h.low.size;obtain ⟨g,hg,hgl⟩:=h.win;exact ⟨hr,h.low.trans (hb.below zw hs),h.own.same fun b hm=>hb.block b (h.own.lt hm).2 ZcA,h.small,⟨g,hg,Kn hgl hb.size⟩,(hb.block _ hl zw).trans h.box,(hb.block _ (J2.1 h.mK).1 zw).trans h.mK,hx⟩
def apQ (w:w_) (e:Ending) (w':w_):Prop:= ∃ (k:eA) (z:Int),e=r_ (u_ #[a_ k.row,i_ j_ z])/\(Lit.int j_ z).wf=true/\gp w' w.heap.size k/\k.pure.Small/\(∃ g,k.vb=o_ ⟨g,0,n_⟩/\g < w'.heap.size)/\B_ w.heap.size w w'
def aoB.fin {z:Int} (h:aoB a len cap w X k W) (hz:(Lit.int j_ z).wf=true):apQ w (r_ (u_ #[a_ k.row,i_ j_ z])) (W.setRow w.heap.size k.row):=
 ⟨k,z,rfl,hz,(h.own.lower zw).same fun b hm=>KH _ _ _ _ ZcA,h.small,by rw [setRow_size]; exact h.win,kz h.low (Ki _) _⟩
end
def apJ (a:Option d_) (len cap:Nat) (w:w_) (hl:len<=1048576) (hb:Bytes w a len):
  k_ J3 17 #[s_ a len cap] w fun e w'=>apQ w e w':=by
 have h5:B_ w.heap.size w (w.alloc (c_ T9 30)):=(Kp w.heap.size w).alloc (Ki _) _;have S:bN (B_ w.heap.size w (w.alloc (c_ T9 30))/\(w.alloc (c_ T9 30)).heap[w.heap.size]? =o_ (c_ T9 30)/\(w.alloc (c_ T9 30)).heap.size=w.heap.size+1/\Bytes (w.alloc (c_ T9 30)) a len):=⟨h5,(Kj _ _),by simp,hb.below h5⟩
 clear hb h5
 go_enter func17,ntmps17
 go_upto_region 1 with fail;generalize w.alloc (c_ T9 30)=A at *;go_wp2_with fail;refine (Gj a len cap A S.I.2.2.2).mono ?_;rintro e af8 ⟨rfl,hb1,hr1,-⟩;go_wp2_with fail;refine (ap6 A.heap.size a len cap af8 hl hr1).mono ?_;rintro e A2 ⟨k,rfl,ho,hs,⟨g,hg,hgl⟩,hb2,hr2⟩;have HD:bN (aoB a len cap w A2.heap.size k ((A2.alloc (c_ T9 30)).setRow A2.heap.size k.row)):=by
  obtain ⟨s1,s2,s3,-⟩:=S.I;have z1:=hb1.size;have z2:=hb2.size;have zr:=hr1.lt;rw [s3] at hb1 hr1 hb2 hr2 zr;have hq:B_ A2.heap.size A2 ((A2.alloc (c_ T9 30)).setRow A2.heap.size k.row):=kz ((Kp _ _).alloc (Ki _) _) (Ki _) _;have hlow:B_ w.heap.size w A2:=(s1.trans (hb1.mono zw)).trans (hb2.below zw zw);exact ⟨hr2.below hq,hlow.trans (hq.mono zw),(ho.lower zw).below hq,hs,⟨g,hg,Kn hgl hq.size⟩,KU _ _ _ _ _ _ (Kj _ _),(hq.block _ zw).trans ((hb2.block _ zw zw).trans ((hb1.block _ zw).trans s2)),zw⟩
 have HZ:=aA S.I.2.2.1;clear hg hgl ho hs hb1 hr1 hb2 hr2 S;go_upto_region 3 with (refine stK 5 9 k.row (Kj _ _) ?_);generalize (A2.alloc (c_ T9 30)).setRow A2.heap.size k.row=B at *;generalize A2.heap.size=X at *;have hbd:B_ B.heap.size B B.drew:=(Kp _ _).drew;replace HD:=aA (HD.I.drawn (gG.dI hbd) (HD.I.rd.below hbd));clear hbd;refine Kr (S:=fun W=>Tk W X k) ZbY HD.I.box (fun _=> ?_);generalize World.drew _=V at *;refine tt 0 HD.I.box ?_ (hy:=fun w0 hS0=>by obtain ⟨m0,m1,m2,m3,m4⟩:=hS0.cells; go_simp; try with_reducible rfl);refine tt 1 HD.I.box ?_;refine L7 2 (fun K hK=> ?_);go_wp2_with fail;refine (Gk A.heap.size a len cap 1 3 _ hl zw zw zw (by rw [HZ.I]; exact HD.I.rd)).mono ?_;rintro e W1 ⟨z,rfl,hz,hb1,hr1⟩;have HW:=aA hz;rw [HZ.I] at hb1 hr1;replace HD:=aA (HD.I.drawn hb1 hr1);clear hb1 hr1 hz;refine hK.out _ _ HD.I.box (fun _=> ?_);clear hK K
 try simp only [pt,sb,s0,s1]
 refine L7 3 (fun K hK=> ?_);refine LY 30 (.tmp 2) (.tmp 10) rfl w.heap.size k.row rfl rfl _ _ HD.I.mK ZbY rfl ZbY ?_;have lW:Tk (W1.setRow w.heap.size k.row) X k:=(KH _ _ _ _ (by have:=HD.I.hx; omega)).trans HD.I.box;refine hK.out _ _ lW (fun _=> ?_);clear hK K;refine tt 4 lW ?_;clear lW;refine K3 ZbY ?_ _;go_wp2_with fail;refine aaf results17 (i_ j_ z) HD.I.mK ?_;exact HD.I.fin HW.I
def apO (a:Option d_) (len cap:Nat) (w:w_) (hl:len<=1048576) (hb:Bytes w a len):
  k_ J3 13 #[s_ a len cap] w fun e w'=>apQ w e w':=by
 have h5:B_ w.heap.size w (w.alloc (c_ T9 30)):=(Kp w.heap.size w).alloc (Ki _) _;have S:bN (B_ w.heap.size w (w.alloc (c_ T9 30))/\(w.alloc (c_ T9 30)).heap[w.heap.size]? =o_ (c_ T9 30)/\(w.alloc (c_ T9 30)).heap.size=w.heap.size+1/\Bytes (w.alloc (c_ T9 30)) a len):=⟨h5,(Kj _ _),by simp,hb.below h5⟩
 clear hb h5
 go_enter func13,ntmps13
 go_upto_region 1 with fail;generalize w.alloc (c_ T9 30)=A at *;go_wp2_with fail;refine (apJ a len cap A hl S.I.2.2.2).mono ?_;rintro e W ⟨k,z,rfl,hz,ho,hs,⟨g,hg,hgl⟩,hb⟩;have HA:bN (W.heap[w.heap.size]? =o_ (c_ T9 30)):=(hb.block _ (by have:=S.I.2.2.1; omega)).trans S.I.2.1;have HR:bN (apQ w (r_ (u_ #[a_ k.row,i_ j_ z])) (W.setRow w.heap.size k.row)):=by
  obtain ⟨s1,s2,s3,-⟩:=S.I;exact ⟨k,z,rfl,hz,(ho.lower zw).same fun b hm=>KH _ _ _ _ (by have:=(ho.lt hm).1; omega),hs,⟨g,hg,by rw [setRow_size]; exact hgl⟩,kz (s1.trans (hb.mono zw)) (Ki _) _⟩
 clear hg hgl ho hs hb hz S;go_wp2_with (refine stK 2 6 k.row HA.I ?_);refine aaf results13 (i_ j_ z) HA.I ?_;exact HR.I
end Go.Proofs.YtckenjkcmajicaaGreat

namespace Go.Proofs.YtckenjkcmajicaaGreat
open Go.Maps
attribute [local go_sem ↓] Kc Kd
def apM (a b:Option d_) (l:List Int) (ca cb:Nat) (w:w_) (hl:l.length<=6) (ha:Row w a (Xn l)) (hb:Row w b (Xn l)):
  k_ J3 15 #[s_ a l.length ca,s_ b l.length cb] w fun e w'=>e=r_ (b_ true)/\B_ w.heap.size w w':=by
 have H:=aA (And.intro ha hb);clear ha hb;have e0:((l.length:Int) != (l.length:Int))=false:=by simp
 go_enter func15,ntmps15
 go_wp2_with fail;clear e0
 go_loopw [5] (fun i wr=> ∃ k:Nat,k<=l.length/\i=i_ j_ k/\bN (B_ w.heap.size w wr)) (fun i _=>l.length - (Go.RowKit.intOf i).toNat)
 case atStart=>exact ⟨0,Ky _,rfl,Kp _ _⟩
 case round=>
  obtain ⟨k,hk,rfl,S⟩:=hrel;by_cases hlt:k < l.length
  .have i0:(0:Int)<=(k:Int):=zw
   have i1:(k:Int) < (l.length:Int):=zw
   obtain ⟨z,hz⟩: ∃ z,l[k]? =o_ z:=⟨_,Kz hlt⟩
   obtain ⟨g,rfl,c0⟩:=XX (H.I.1.below S.I) hz;obtain ⟨g2,rfl,c1⟩:=XX (H.I.2.below S.I) hz;have e1:(z != z)=false:=by simp
   clear hz;go_upto_region 6 with fail
   go_region_held3 (fun w'=>w'.cell? ⟨g,k,n_⟩=o_ (i_ j_ z)/\w'.cell? ⟨g2,k,n_⟩=o_ (i_ j_ z)) (go_keep) (fail)
   go_wp2;go_roundw
   case rel=>exact ⟨k+1,zw,by go_num,S.I.drew⟩
   case measure=>simp [Go.RowKit.intOf]; omega
  .have i1: ¬ (k:Int) < (l.length:Int):=zw
   go_wp2;go_ret;exact ⟨rfl,S.I⟩
def apW {k:kd} {part:Int} {l:List Int} (h:Xr k part l) (hne:0 < l.length):part∈l/\(∀ x∈l,(Lit.int j_ x).wf=true/\ ∀ m,Xr k x m-> ∀ y∈m,y∈l)/\ ∀ c∈k.eC,c.dst=part->c.src∈l:=by
 have hn: ¬ l= [] :=fun e=>by rw [e] at hne; cases hne
 have hk:eP k=true:=by cases hk:eP k with
  | true=>rfl
  | false=>exact absurd (h.2 (.inl hk)) hn
 have hp:part∈k.parts.map (·.id):=Classical.byContradiction fun hp=>hn (h.2 (.inr hp))
 have F:=h.1 hk hp;refine ⟨(F.mem _).2 XA,fun x hx=> ?_,fun c hc he=>(F.mem _).2 (Yi hc (by rw [he]; exact XA))⟩;have hr:=(F.mem x).1 hx;have hi:=XY hk hp hr;refine ⟨?_,fun m hm y hy=>(F.mem y).2 (Yj hr (((hm.1 hk hi).mem y).1 hy))⟩;obtain ⟨p,hpm,rfl⟩:=Lr.1 hi
 have:=bz.1 (Ww hk p hpm).id
 exact pT zw zw
structure aot (w:w_) (X:Nat) (k:eA) (la:Option d_) (l:List Int) (W:w_):Prop where
 box:Tk W X k
 own:gp W w.heap.size k
 small:k.pure.Small
 win: ∃ g,k.vb=o_ ⟨g,0,n_⟩/\g < W.heap.size
 row:Row W la (Xn l)
 low:B_ w.heap.size w W
section
variable {w W W2:w_} {X:Nat} {k:eA} {la:Option d_} {l:List Int} {z:Int}
def aot.below (h:aot w X k la l W) (hb:B_ W.heap.size W W2):aot w X k la l W2:=by
 obtain ⟨g,hg,hl⟩:=h.win;exact ⟨(hb.block _ (J2.1 h.box).1).trans h.box,h.own.below hb,h.small,⟨g,hg,Kn hl hb.size⟩,h.row.below hb,h.low.trans (hb.mono h.low.size)⟩
def aot.at {gl n:Nat} {x:Int} (h:aot w X k (o_ ⟨gl,0,n_⟩) l W) (hx:l[n]? =o_ x):W.cell? ⟨gl,n,n_⟩=o_ (i_ j_ x):=by
 obtain ⟨g,e,c⟩:=XX h.row hx;cases e;exact c
def aot.impl (h:aot w X k la l W) (hz:(Lit.int j_ z).wf=true):k_ J3 14 #[a_ k.row,i_ j_ z] W fun e w'=>XW W k.pure z e w':=by
 obtain ⟨g,hg⟩:=h.win;exact Xw k z g _ W hz h.small h.own hg
def aot.spec (h:aot w X k la l W):k_ J3 16 #[a_ k.row,i_ j_ z] W fun e w'=>XW W k.pure z e w':=by
 obtain ⟨g,hg⟩:=h.win;exact XI k z g W (Ug h.small) hg h.own.at
end
section
variable {P:Program} {md:Region.Mode} {ops:Array Oper} {Q:Exit->Act->w_->Prop} {S:w_->Prop}
def ao3 (i:Nat) {oi:Oper} {fuel:Nat} {RV:Array Bool} {a a':Act} {w:w_} {d:Tmp} (hS:S w) (h:wpAnyH P md ops Q S fuel (RV.setIfInBounds i true) a' w) (hi:ops[i]? =o_ oi:=by rfl) (hd:oi.dst=o_ d:=by rfl)
  (h1:Region.noSelect ops=true:=by kernel_rfl) (h2:Region.free md ops RV i=true:=by kernel_rfl) (h3:(Region.ready md ops RV).contains i=true:=by kernel_rfl)
  (hQ: ∀ c a w,Q (.panic c) (a.put (o_ d) undef) w->Q (.panic c) a w:=by exact fun _ _ _ h=>h) (hw:Region.wanted oi (yielded ops a.tmps)=false:=by kernel_rfl) (ha:a.put (o_ d) undef=a':=by simp only [pt,sb,s0,s1]; rfl):wpAnyH P md ops Q S (fuel+1) RV a w:=by
 rw [<- hd] at ha hQ;exact wpAnyH_take (i:=i) hi h1 h2 h3 hQ (.inr ⟨hw,rfl⟩) hS Zcz
end
def aqh {l:List Int} {n:Nat} {x z:Int} (h:l[n]? =o_ x):decide (z∈l.take (n+1))=(decide (z∈l.take n) || (x == z)):=by
 have e:l.take (n+1)=l.take n ++ [x] :=by rw [List.take_add_one,h]; rfl
 rw [e];by_cases h1:z∈l.take n
 .simp [h1]
 .by_cases h2:x=z
  .simp [h2]
  .have h3: ¬ z=x:=fun e=>h2 e.symm
   simp [h1,h2,h3]
def ap9 (a:Option d_) (len cap:Nat) (w:w_) (hb:len<=1048576->Bytes w a len):
  k_ J3 4 #[s_ a len cap] w fun e w'=>e=r_ (b_ true)/\B_ w.heap.size w w':=by
 by_cases hl:1048576 < len
 .have hd:decide (1048576 < len)=true:=by simp [hl]
  go_enter func4,ntmps4
  go_wp2_with (go_at_call 5; refine (DG _ _ _ _).mono ?_; rintro e w' ⟨rfl,rfl⟩; rw [hd]);go_ret;exact ⟨rfl,by go_grown⟩
 have hd:decide (1048576 < len)=false:=by simp [hl]
 have HBY:bN (Bytes w a len):=hb zw;clear hb;have HL:bN (len<=1048576):=(by omega:len<=1048576)
 clear hl
 go_enter func4,ntmps4
 go_wp2_with (go_at_call 5; refine (DG _ _ _ _).mono ?_; rintro e w' ⟨rfl,rfl⟩; rw [hd]);clear hd;have Mb:=apO a len cap w' HL.I HBY.I;go_wp2_with fail;refine Mb.mono ?_;clear Mb HBY;rintro e af8 ⟨k,part,rfl,hz,ho,hs,⟨g,hg,hgl⟩,hb⟩;have HZ:=aA hz;have S:bN (aot w' af8.heap.size k n_ [] ((af8.alloc (c_ T9 30)).setRow af8.heap.size k.row)):=by
  have hq:B_ af8.heap.size af8 ((af8.alloc (c_ T9 30)).setRow af8.heap.size k.row):=kz ((Kp _ _).alloc (Ki _) _) (Ki _) _;exact ⟨KU _ _ _ _ _ _ (Kj _ _),ho.below hq,hs,⟨g,hg,Kn hgl hq.size⟩,fun i v h=>by simp [Xn] at h,hb.trans (hq.mono hb.size)⟩
 clear hz ho hs hg hgl hb;go_upto_region 4 with (refine stK 3 20 k.row (Kj _ _) ?_);generalize (af8.alloc (c_ T9 30)).setRow af8.heap.size k.row=B at *;generalize af8.heap.size=X at *;obtain ⟨m0,m1,m2,m3,m4⟩:=S.I.box.cells;go_wp2_with fail;clear m0 m1 m2 m3 m4;refine (S.I.impl HZ.I).mono ?_;rintro e B1 ⟨l,la,lc,rfl,h1,hv,hb⟩;replace S:bN (aot w' X k la l B1):=by
  obtain ⟨x1,x2,x3,x4,-,x6⟩:=S.I.below hb;exact ⟨x1,x2,x3,x4,nP h1,x6⟩
 have HV:=aA (And.intro hv (X8 hv));clear h1 hv hb;obtain ⟨m0,m1,m2,m3,m4⟩:=S.I.box.cells;go_wp2_with fail;clear m0 m1 m2 m3 m4;refine (S.I.spec (z:=part)).mono ?_;rintro e B2 ⟨l2,la2,lc2,rfl,h2,hv2,hb2⟩;obtain rfl:=Yf HV.I.1 hv2;replace S:=aA (S.I.below hb2);have Mb:=apM la la2 l lc lc2 B2 HV.I.2 S.I.row (nP h2);clear h2 hv2 hb2;go_wp2_with fail;refine Mb.mono ?_;clear Mb;rintro e B3 ⟨rfl,hb3⟩;replace S:=aA (S.I.below hb3);clear hb3;by_cases h0:l.length=0
 .have e0:((l.length:Int) == 0)=true:=by simp [h0]
  clear h0;obtain ⟨m0,m1,m2,m3,m4⟩:=S.I.box.cells;go_wp2_with fail;clear m0 m1 m2 m3 m4;refine (S.I.spec (z:=part)).mono ?_;rintro e hE ⟨l2,la3,lc3,rfl,h2,hv2,hb2⟩;obtain rfl:=Yf HV.I.1 hv2;replace S:=aA (S.I.below hb2);have Mb:=apM la la3 l lc lc3 hE HV.I.2 S.I.row (nP h2);clear h2 hv2 hb2 e0;go_wp2_with fail;refine Mb.mono ?_;clear Mb;rintro e amZ ⟨rfl,hb3⟩;go_wp2_with fail;go_ret;exact ⟨rfl,(S.I.below hb3).low⟩
 have e0:((l.length:Int) == 0)=false:=beq_eq_false_iff_ne.2 zw;have aoQ:=aA (apW HV.I.1 zw);have HV6:=aA HV.I.2;obtain ⟨gl,rfl,-⟩:=XX S.I.row (Kz (by omega:0 < l.length));clear h0 HV;go_wp2_with fail;clear e0
 go_loopw [6,7] (fun s i wr=> ∃ n:Nat,n<=l.length/\s=b_ (decide (part∈l.take n))/\i=i_ j_ n/\bN (aot w' X k (o_ ⟨gl,0,n_⟩) l wr)) (fun _ i _=>l.length - (Go.RowKit.intOf i).toNat)
 case atStart=>exact ⟨0,Ky _,by simp,rfl,S.I⟩
 case round=>
  clear S;obtain ⟨n,hn,rfl,rfl,S⟩:=hrel;by_cases hlt:n < l.length
  .have i0:(0:Int)<=(n:Int):=zw
   have i1:(n:Int) < (l.length:Int):=zw
   obtain ⟨x,hx⟩: ∃ x,l[n]? =o_ x:=⟨_,Kz hlt⟩
   have HX:=aA (And.intro hx (And.intro (KA hx) hlt));have HT:bN (decide (part∈l.take (n+1))=(decide (part∈l.take n) || (x == part))):=aqh hx;generalize decide (part∈l.take n)=bs at *;have c0:=S.I.at hx;clear hx hn hlt;go_upto_region 11 with fail
   go_cut [6] from 47 to 56 (fun s wx=>s=b_ (bs || (x == part))/\wx=wr)
   case first=>
    cases bs with
    | true=>
     go_wp2_with fail;go_meet;exact ⟨rfl,rfl⟩
    | false=>
     go_wp2_with fail;go_meet;exact ⟨rfl,rfl⟩
   case rest=>
    obtain ⟨rfl,rfl⟩:=hcut;go_upto_region 12 with fail;replace S:=aA (S.I.below (Kp _ _).drew);refine Kr (S:=fun W=>Tk W X k/\W.cell? ⟨gl,n,n_⟩=o_ (i_ j_ x)) ZbY ⟨S.I.box,c0⟩ (fun _=> ?_);clear c0;generalize World.drew _=V at *;have HS:=aA (And.intro S.I.box (S.I.at HX.I.1));refine tt 0 HS.I ?_ (hy:=fun w0 hS0=>by obtain ⟨m0,m1,m2,m3,m4⟩:=hS0.1.cells; go_simp; try with_reducible rfl);refine tt 1 HS.I ?_;refine tt 2 HS.I ?_;refine tt 3 HS.I ?_;refine tt 4 HS.I ?_ (hy:=fun w0 hS0=>by have q0:=hS0.2; go_simp; try with_reducible rfl);refine L7 5 (fun K hK=> ?_);go_wp2_with fail;refine (S.I.impl (aoQ.I.2.1 x HX.I.2.1).1).mono ?_;rintro e V2 ⟨m,am,aop,rfl,hm,hv,hb⟩;have HM:=aA (And.intro (X8 hv) ((aoQ.I.2.1 x HX.I.2.1).2 m hv));replace S:=aA (And.intro (S.I.below hb) (nP hm));clear hm hv hb HS;refine hK.out _ _ ⟨S.I.1.box,S.I.1.at HX.I.1⟩ (fun _=> ?_);clear hK K
    try simp only [pt,sb,s0,s1]
    refine tt 6 ⟨S.I.1.box,S.I.1.at HX.I.1⟩ ?_;refine K3 ZbY ?_ _;go_wp2_with fail;clear i0 i1
    go_loopw [9] (fun i wr=> ∃ j:Nat,j<=m.length/\i=i_ j_ j/\bN (aot w' X k (o_ ⟨gl,0,n_⟩) l wr/\Row wr am (Xn m))) (fun i _=>m.length - (Go.RowKit.intOf i).toNat)
    case atStart=>exact ⟨0,Ky _,rfl,S.I⟩
    case round=>
     clear S;obtain ⟨j,hj,rfl,S⟩:=hrel;by_cases hjt:j < m.length
     .have i1:(j:Int) < (m.length:Int):=zw
      have j0:(0:Int)<=(j:Int):=zw
      obtain ⟨y,hy⟩: ∃ y,m[j]? =o_ y:=⟨_,Kz hjt⟩
      have HY:=aA (And.intro hy (HM.I.2 y (KA hy)));obtain ⟨aoF,rfl,-⟩:=XX S.I.2 hy;clear hy;go_wp2_with fail
      go_loopw [10,11] (fun s i wr=> ∃ q:Nat,q<=l.length/\s=b_ (decide (y∈l.take q))/\i=i_ j_ q/\bN (aot w' X k (o_ ⟨gl,0,n_⟩) l wr/\Row wr (o_ ⟨aoF,0,n_⟩) (Xn m))) (fun _ i _=>l.length - (Go.RowKit.intOf i).toNat)
      case atStart=>exact ⟨0,Ky _,by simp,rfl,S.I⟩
      case round=>
       clear S;obtain ⟨q,hq,rfl,rfl,S⟩:=hrel;by_cases hqt:q < l.length
       .have i2:(q:Int) < (l.length:Int):=zw
        have q0:(0:Int)<=(q:Int):=zw
        obtain ⟨z,hz⟩: ∃ z,l[q]? =o_ z:=⟨_,Kz hqt⟩
        have xD:bN (decide (y∈l.take (q+1))=(decide (y∈l.take q) || (z == y))):=aqh hz;generalize decide (y∈l.take q)=b2 at *;have c1:=S.I.1.at hz;obtain ⟨g2,e2,c2⟩:=XX S.I.2 HY.I.1;cases e2;clear hz;have l6:=HV6.I;cases b2
        case true=>
         clear c1 c2;go_upto_region 20 with fail;refine Kr (S:=fun _=>True) ZbY trivial (fun _=> ?_);refine tt 0 trivial ?_;refine tt 1 trivial ?_;refine ao3 2 trivial ?_;refine ao3 3 trivial ?_;refine ao3 4 trivial ?_;refine ao3 5 trivial ?_;refine ao3 6 trivial ?_;refine ao3 7 trivial ?_;refine ao3 8 trivial ?_;refine ao3 9 trivial ?_;refine ao3 10 trivial ?_;refine tt 11 trivial ?_;refine tt 12 trivial ?_;refine K3 ZbY ?_ _;exact Zaf
        case false=>
         go_upto_region 20 with fail
         go_region_held3 (fun w'=>w'.cell? ⟨gl,q,n_⟩=o_ (i_ j_ z)/\w'.cell? ⟨aoF,j,n_⟩=o_ (i_ j_ y)) (go_keep) (fail)
         exact Zaf
       .have i2: ¬ (q:Int) < (l.length:Int):=zw
        have e2:decide (y∈l.take q)=true:=by rw [KF zw]; exact decide_eq_true HY.I.2
        have m6:=HM.I.1;exact Za2
     .have i1: ¬ (j:Int) < (m.length:Int):=zw
      have l6:=HV6.I;have n6:=HX.I.2.2;go_wp2_with fail;go_roundw
      case rel=>exact ⟨n+1,HX.I.2.2,by rw [HT.I],by go_num,S.I.1⟩
      case measure=>have:=HX.I.2.2; simp [Go.RowKit.intOf]; omega
  .have i1: ¬ (n:Int) < (l.length:Int):=zw
   have e1:decide (part∈l.take n)=true:=by rw [KF zw]; exact decide_eq_true aoQ.I.1
   have HC:bN (k.eC.length<=1048576):=S.I.small.w8;go_wp2_with fail;clear i1 e1 hlt hn
   go_loopw [12] (fun i wr=> ∃ j:Nat,j<=k.eC.length/\i=i_ j_ j/\bN (aot w' X k (o_ ⟨gl,0,n_⟩) l wr)) (fun i _=>k.eC.length - (Go.RowKit.intOf i).toNat)
   case atStart=>exact ⟨0,Ky _,rfl,S.I⟩
   case round=>
    clear S;obtain ⟨j,hj,rfl,S⟩:=hrel;have c4:=S.I.box.cells.2.2.2.2;by_cases hjt:j < k.eC.length
    .have i1:(j:Int) < (k.eC.length:Int):=zw
     have j0:(0:Int)<=(j:Int):=zw
     obtain ⟨c,hc⟩: ∃ c,k.eC[j]? =o_ c:=⟨_,Kz hjt⟩
     obtain ⟨gc,iE,y0,y1,y2,y3⟩:=TH S.I.own.at.eC hc;have HY:=aA (And.intro hc (And.intro (aoQ.I.2.2 c (KA hc)) iE));have hjl:=HC.I;rw [iE] at c4;clear hc iE y0 y1 y3;go_wp2_with fail;clear c4 y2
     go_loopw [13,14] (fun s i wr=> ∃ q:Nat,q<=l.length/\s=b_ ((c.dst != part) || decide (c.src∈l.take q))/\i=i_ j_ q/\bN (aot w' X k (o_ ⟨gl,0,n_⟩) l wr)) (fun _ i _=>l.length - (Go.RowKit.intOf i).toNat)
     case atStart=>exact ⟨0,Ky _,by simp,rfl,S.I⟩
     case round=>
      clear S;obtain ⟨q,hq,rfl,rfl,S⟩:=hrel;have l6:=HV6.I;by_cases hqt:q < l.length
      .have i2:(q:Int) < (l.length:Int):=zw
       have q0:(0:Int)<=(q:Int):=zw
       obtain ⟨z,hz⟩: ∃ z,l[q]? =o_ z:=⟨_,Kz hqt⟩
       have xD:bN (((c.dst != part) || decide (c.src∈l.take (q+1)))=(((c.dst != part) || decide (c.src∈l.take q)) || (z == c.src))):=by rw [aqh hz,Bool.or_assoc]; exact rfl
       generalize ((c.dst != part) || decide (c.src∈l.take q))=b2 at *;cases b2
       case true=>
        clear hz;go_upto_region 30 with fail;refine Kr (S:=fun _=>True) ZbY trivial (fun _=> ?_);refine tt 0 trivial ?_;refine tt 1 trivial ?_;refine ao3 2 trivial ?_;refine ao3 3 trivial ?_;refine ao3 4 trivial ?_;refine ao3 5 trivial ?_;refine ao3 6 trivial ?_;refine ao3 7 trivial ?_;refine ao3 8 trivial ?_;refine ao3 9 trivial ?_;refine ao3 10 trivial ?_;refine ao3 11 trivial ?_;refine ao3 12 trivial ?_;refine tt 13 trivial ?_;refine tt 14 trivial ?_;refine K3 ZbY ?_ _;exact Zav
       case false=>
        have c1:=S.I.at hz;have c4:=S.I.box.cells.2.2.2.2;obtain ⟨g2,e2,y0,-⟩:=TH S.I.own.at.eC HY.I.1;rw [HY.I.2.2] at c4 e2;cases e2;clear hz;go_upto_region 30 with fail
        go_region_held3 (fun w'=>w'.cell? ⟨gl,q,n_⟩=o_ (i_ j_ z)/\w'.cell? ⟨X,4,n_⟩=o_ (s_ (o_ ⟨gc,0,n_⟩) k.eC.length k.tC)/\w'.cell? ⟨gc,j * 4,n_⟩=o_ (i_ j_ c.src)) (go_keep) (fail)
        exact Zav
      .have i2: ¬ (q:Int) < (l.length:Int):=zw
       have e2:((c.dst != part) || decide (c.src∈l.take q))=true:=by
        rw [KF zw];by_cases Vu:c.dst=part
        .rw [decide_eq_true (HY.I.2.1 Vu),Bool.or_true]
        .rw [bne_iff_ne.2 Vu,Bool.true_or]
       exact Za2
    .have i1: ¬ (j:Int) < (k.eC.length:Int):=zw
     go_wp2_with fail;go_ret;exact ⟨rfl,S.I.low⟩
end Go.Proofs.YtckenjkcmajicaaGreat
