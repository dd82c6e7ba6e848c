/- Seven cells of a block. No statement is proved here. -/
import Derived.Test.YtahbcpjipomcgaaGreatRot
namespace Go.Proofs.YtahbcpjipomcgaaGreat
open Go Go.RowKit
theorem BlkL.sevenT {w : World} {B : Nat} {v0 v1 v2 v3 v4 v5 v6 : Value} (h : BlkL w B [v0, v1, v2, v3, v4, v5, v6]) : w.cell? ⟨B, 0, none⟩ = some v0 ∧ w.cell? ⟨B, 1, none⟩ = some v1 ∧ w.cell? ⟨B, 2, none⟩ = some v2 ∧ w.cell? ⟨B, 3, none⟩ = some v3 ∧ w.cell? ⟨B, 4, none⟩ = some v4 ∧ w.cell? ⟨B, 5, none⟩ = some v5 ∧ w.cell? ⟨B, 6, none⟩ = some v6 :=
  ⟨(h.2 0 _ rfl).1, (h.2 1 _ rfl).1, (h.2 2 _ rfl).1, (h.2 3 _ rfl).1, (h.2 4 _ rfl).1, (h.2 5 _ rfl).1, (h.2 6 _ rfl).1⟩
end Go.Proofs.YtahbcpjipomcgaaGreat
