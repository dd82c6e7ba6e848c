/- Lists that came in, with their words; blocks of three. No statement is proved here. -/
import Derived.Test.YtknabmknboffgaaGreatDoorSame
import Derived.Test.YtknabmknboffgaaGreatDoorRot
namespace Go.Proofs.YtknabmknboffgaaGreatDoor
open Go Go.RowKit
theorem BlkL.three {w : World} {B : Nat} {v0 v1 v2 : Value} (h : BlkL w B [v0, v1, v2]) : w.cell? ⟨B, 0, none⟩ = some v0 ∧ w.cell? ⟨B, 1, none⟩ = some v1 ∧ w.cell? ⟨B, 2, none⟩ = some v2 :=
  ⟨(h.2 0 _ rfl).1, (h.2 1 _ rfl).1, (h.2 2 _ rfl).1⟩
section
variable {H : Type} {enc : TypeId × Value → H} {P : Program} {w : World} {base : Nat} {spare : Nat → Bool} {held : Bool}
open Go.ChangeShapes Go.WideShapes
/-- A slice of 32-bit numbers in a field, its words among it. -/
theorem open_f32sW {t e : TypeId} {c : Value} {y : DataW H × List MemPlace} {fuel : Nat} (ht : P.underlying t = some (.slice e)) (he : P.underlying e = some (.float .f32)) (hc : P.cellsOf e = 1)
    (h : DataW.trod enc P w base spare held fuel t [c] = some y) :
    ∃ (A : Option Addr) (cap : Nat) (xs : List Nat), c = .slice A xs.length cap ∧ xs.length ≤ maxLen ∧ Fl w A xs ∧ Words xs := by
  have hs : ∃ A len cap, c = .slice A len cap := by
    rcases DataW.trod_slice ht h with ⟨h0, -⟩ | ⟨a, len', cap', elems, rest, n, -, hcs, -⟩
    · simp at h0; exact ⟨_, _, _, h0⟩
    · simp at hcs; exact ⟨_, _, _, hcs⟩
  obtain ⟨A, len, cap, rfl⟩ := hs
  obtain ⟨xs, rfl, hm, hf, hx⟩ := open_f32s (d := y.1) (ps := y.2) ht he hc ⟨fuel, by simpa [Value.cells] using h⟩
  exact ⟨A, cap, xs, rfl, hm, hf, words_of hx⟩
end
end Go.Proofs.YtknabmknboffgaaGreatDoor
