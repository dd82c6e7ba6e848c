/- Lists that came in, with the words of their numbers. No statement is proved here. -/
import Derived.Test.YtmadlabnhjhfiaaSlice
import Derived.Lib.SmallJoins
namespace Go.Proofs.Ytmadlabnhjhfiaa
open Go Go.RowKit
section
variable {H : Type} {enc : TypeId × Value → H} {P : Program} {w : World} {base : Nat} {spare : Nat → Bool} {held : Bool}
open Go.ChangeShapes Go.WideShapes
/-- A slice of 32-bit numbers in a field, its words among it. -/
theorem open_f32sW {t e : TypeId} {c : Value} {y : DataW H × List MemPlace} {fuel : Nat} (ht : P.underlying t = some (.slice e)) (he : P.underlying e = some (.float .f32)) (hc : P.cellsOf e = 1)
    (h : DataW.trod enc P w base spare held fuel t [c] = some y) :
    ∃ (A : Option Addr) (cap : Nat) (xs : List Nat), c = .slice A xs.length cap ∧ xs.length ≤ maxLen ∧ Fl w A xs ∧ ∀ x ∈ xs, x < words .f32 := by
  have hs : ∃ A len cap, c = .slice A len cap := by
    rcases DataW.trod_slice ht h with ⟨h0, -⟩ | ⟨a, len', cap', elems, rest, n, -, hcs, -⟩
    · simp at h0; exact ⟨_, _, _, h0⟩
    · simp at hcs; exact ⟨_, _, _, hcs⟩
  obtain ⟨A, len, cap, rfl⟩ := hs
  obtain ⟨xs, rfl, hm, hf, hx⟩ := open_f32s (d := y.1) (ps := y.2) ht he hc ⟨fuel, by simpa [Value.cells] using h⟩
  exact ⟨A, cap, xs, rfl, hm, hf, hx⟩
end
end Go.Proofs.Ytmadlabnhjhfiaa
