/- The table that tells trailing zeros. No statement is proved here. -/
import Derived.Test.YtknabmknboffgaaDoorFmt
namespace Go.Proofs.YtknabmknboffgaaDoor
open Go Go.RowKit
/-- the table that tells trailing zeros holds what it is laid with, where it is looked at -/
def T64 (w : World) : Prop := w.cell? ⟨8, 15, none⟩ = some (.int .u8 4)
theorem T64.below {w w' : World} (h : T64 w) (hb : Below w.heap.size w w') : T64 w' := by
  unfold T64 at *
  rw [hb.cell (p := ⟨8, 15, none⟩) (cell_lt h).1]; exact h
end Go.Proofs.YtknabmknboffgaaDoor
