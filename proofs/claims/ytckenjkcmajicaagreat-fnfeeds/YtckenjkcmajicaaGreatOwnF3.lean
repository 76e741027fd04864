/- What the proof leans on, part 3. -/
import Derived.RangeFuncCalls
import Derived.RangeFuncKeeps
import Derived.Shelf.SlIterI.Nil
import Derived.Shelf.SortM.Plain
import Derived.Shelf.SortM.SortNone
import Derived.Test.YtckenjkcmajicaaGreatProg
set_option linter.all false
set_option maxRecDepth 100000
set_option maxHeartbeats 8000000
open Go renaming World->w_,Value->v_,Addr->d_,TypeId->T_
open Go.Obj renaming cells->c_
open Go.RowKit renaming Below->B_,Hid->bN
open Option renaming some->o_
open Array renaming getElem?_eq_some_iff->J2
open Nat renaming le_refl->Ki,le_trans->LG,lt_of_lt_of_le->Kn

namespace Go.Proofs.YtckenjkcmajicaaGreat
open Go.RowKit
def Kept (B:Nat) (W W':w_):Prop:=W.heap.size<=W'.heap.size/\ ∀ b,B<=b->b < W.heap.size->W'.heap[b]? =W.heap[b]?
def ZL (B:Nat) (W W':w_):Prop:=W.heap.size<=W'.heap.size/\ ∀ b c t fr,B<=b->W.heap[b]? =o_ (c_ c t fr)->W'.heap[b]? =o_ (c_ c t fr)
def Kept.refl (B:Nat) (W:w_):Kept B W W:=⟨Ki _,fun _ _ _=>rfl⟩
def Kept.trans {B:Nat} {X Y Z:w_} (h:Kept B X Y) (k:Kept B Y Z):Kept B X Z:=
 ⟨LG h.1 k.1,fun b hb hl=>(k.2 b hb (Kn hl h.1)).trans (h.2 b hb hl)⟩
def Kept.alloc (B:Nat) (W:w_) (o:Obj):Kept B W (W.alloc o):=⟨by simp,fun b _ hl=>Below.heap_alloc W o b hl⟩
def Kept.setCell {B:Nat} (W:w_) {p:d_} (hp:p.block < B) (v:v_):Kept B W (W.setCell p v):=⟨by simp,fun b hb _=>Below.heap_setCell W p v b (by omega)⟩
def Kept.drew (B:Nat) (W:w_):Kept B W W.drew:=⟨Ki _,fun _ _ _=>rfl⟩
def Kept.dI {B:Nat} {W W':w_} (h:B_ W.heap.size W W'):Kept B W W':=⟨h.size,fun b _ hl=>h.block b hl⟩
def Kept.cells {B:Nat} {W W':w_} (h:Kept B W W'):ZL B W W':=
 ⟨h.1,fun b _ _ _ hb hc=>(h.2 b hb (J2.1 hc).1).trans hc⟩
def ZL.trans {B:Nat} {X Y Z:w_} (h:ZL B X Y) (k:ZL B Y Z):ZL B X Z:=
 ⟨LG h.1 k.1,fun b c t fr hb hc=>k.2 b c t fr hb (h.2 b c t fr hb hc)⟩
def Zh {B l:Nat} {W:w_} (h:B<=l) (o:Obj):B_ B W (W.putObj l o):=
 ⟨rfl,rfl,rfl,by simp,fun _ hk=>World.putObj_heap_other (by omega)⟩
end Go.Proofs.YtckenjkcmajicaaGreat

namespace Go.Proofs.YtckenjkcmajicaaGreat
open Go.RowKit
def Zp (E:T_) (B:Nat) (W W':w_):Prop:=W.heap.size<=W'.heap.size/\ ∀ b,B<=b->b < W.heap.size->(∀ c fr,W.heap[b]? ≠o_ (c_ c E fr))->W'.heap[b]? =W.heap[b]?
def Zu (E:T_) (B:Nat) (W W':w_):Prop:=W.heap.size<=W'.heap.size/\ ∀ b c t fr,t≠E->B<=b->W.heap[b]? =o_ (c_ c t fr)->W'.heap[b]? =o_ (c_ c t fr)
def Zp.refl (E:T_) (B:Nat) (W:w_):Zp E B W W:=⟨Ki _,fun _ _ _ _=>rfl⟩
def Zp.trans {E:T_} {B:Nat} {X Y Z:w_} (h:Zp E B X Y) (k:Zp E B Y Z):Zp E B X Z:=
 ⟨LG h.1 k.1,fun b hb hl hn=>(k.2 b hb (Kn hl h.1) (by rw [h.2 b hb hl hn]; exact hn)).trans (h.2 b hb hl hn)⟩
def Zp.of {E:T_} {B:Nat} {X Y:w_} (h:Kept B X Y):Zp E B X Y:=⟨h.1,fun b hb hl _=>h.2 b hb hl⟩
def Zp.cells {E:T_} {B:Nat} {W W':w_} (h:Zp E B W W'):Zu E B W W':=
 ⟨h.1,fun b c t fr ht hb hc=>(h.2 b hb (J2.1 hc).1 (fun c2 fr2 e=>by rw [hc] at e; cases e; exact ht rfl)).trans hc⟩
def Zu.trans {E:T_} {B:Nat} {X Y Z:w_} (h:Zu E B X Y) (k:Zu E B Y Z):Zu E B X Z:=
 ⟨LG h.1 k.1,fun b c t fr ht hb hc=>k.2 b c t fr ht hb (h.2 b c t fr ht hb hc)⟩
end Go.Proofs.YtckenjkcmajicaaGreat

namespace Go.Proofs
open Go.Shelf
end Go.Proofs
