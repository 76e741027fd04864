/- The pieces of a text, in memory; a number and whether it is one. -/
import Derived.Test.YtlaeilcipibelaaGreatDoorDecRd
import Derived.Test.YtlaeilcipibelaaGreatDoorPieces
namespace Go.Proofs.YtlaeilcipibelaaGreatDoor
open Go.RowKit

/-- The pieces of a Split, in memory. -/
theorem split_any (s : ByteArray) (c : UInt8) (w : World) (hs : s.size ≤ 1048576) (he : Env w) :
    Calls Tryz.prog 46 #[.string s, .string ⟨#[c]⟩] w fun e w' => ∃ ps : List ByteArray, ps.map (·.data.toList) = pcs c s.data.toList ∧ ps.length ≤ 1048577 ∧ (∀ p ∈ ps, p.size ≤ 1048576) ∧ e = .returned (.slice (some ⟨w.heap.size, 0, none⟩) ps.length ps.length) ∧ (∀ (j : Nat) x, ps[j]? = some x → w'.cell? ⟨w.heap.size, j, none⟩ = some (.string x)) ∧ w.heap.size < w'.heap.size ∧ Below w.heap.size w w' := by
  obtain ⟨m, hm⟩ := he.max
  refine (show Calls Tryz.prog 46 _ w _ from Go.Proofs.Any.strings_Split Tryz.lays146 (by kernel_rfl) s ⟨#[c]⟩ m w (by omega) hm (by show 1 ≤ 1; omega)).mono ?_
  rintro e w' ⟨h1, h2⟩
  have hp := splitB_pcs c s
  have hl : (Lib.splitB ⟨#[c]⟩ 0 (Lib.countB s ⟨#[c]⟩) s).length = Lib.countB s ⟨#[c]⟩ + 1 := Lib.splitB_all _ (by show 1 ≤ 1; omega) 0 _ s rfl
  generalize Lib.splitB ⟨#[c]⟩ 0 (Lib.countB s ⟨#[c]⟩) s = ps at *
  have hlen : ps.length ≤ 1048577 := by
    have h3 := congrArg List.length hp
    rw [List.length_map] at h3
    have h4 := pcs_len_le c s.data.toList
    rw [len_is] at h4
    omega
  refine ⟨ps, hp, hlen, ?_, ?_, ?_, ?_, ?_⟩
  · intro p hm
    have h3 : p.data.toList ∈ pcs c s.data.toList := by rw [← hp]; exact List.mem_map.2 ⟨p, hm, rfl⟩
    have h4 := pcs_piece_le c s.data.toList _ h3
    rw [len_is, len_is] at h4
    omega
  · rw [h1, hl]
  · intro j x hx
    subst h2
    rw [World.cell?_alloc_new]
    simp [hx]
  · subst h2; simp
  · subst h2; exact (Below.refl _ _).alloc (Nat.le_refl _) _

/-- What a reader of a number gives: the number and whether it is one. -/
theorem IntEnds.both {s : ByteArray} {e : Ending} (h : IntEnds s e) : ∃ (n : Int) (b : Bool), e = .returned (.tuple #[.int .i64 n, .bool b]) ∧ (b = true → DecIs s n) ∧ (b = false → ∀ n, ¬ DecIs s n) := by
  rcases h with ⟨n, h1, h2⟩ | ⟨h1, h2⟩
  · exact ⟨n, true, h1, fun _ => h2, (fun h => by cases h)⟩
  · exact ⟨0, false, h1, (fun h => by cases h), fun _ => h2⟩

end Go.Proofs.YtlaeilcipibelaaGreatDoor
