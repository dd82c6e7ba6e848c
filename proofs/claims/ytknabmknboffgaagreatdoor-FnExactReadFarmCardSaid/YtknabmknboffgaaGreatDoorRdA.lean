/- Air out of a text: both sides. No statement is proved here. -/
import Derived.Test.YtknabmknboffgaaGreatDoorRec
import Derived.Test.YtknabmknboffgaaGreatDoorAir
import Derived.RegionTactic
import Derived.BigRegion
namespace Go.Proofs.YtknabmknboffgaaGreatDoor
open Go Go.RowKit
theorem BlkL.setCell {w : World} {B : Nat} {vs : List Value} (h : BlkL w B vs) {p : Addr} (hp : p.block ≠ B) (v : Value) : BlkL (w.setCell p v) B vs :=
  ⟨by simpa [World.setCell] using h.1, fun j u hj => ⟨by rw [World.cell?_setCell_other (h := by intro hh; exact hp (by rw [hh]))]; exact (h.2 j u hj).1, by rw [World.frozen?_setCell]; exact (h.2 j u hj).2⟩⟩
def n4 (s : ByteArray) (k : Nat) : Nat := (nmL s).getD k 0
/-- whether a text has four numbers -/
def fourO (s : ByteArray) : Bool := nmO s && decide ((nmL s).length = 4)
def raO (s : ByteArray) : Bool := fourO s && airV (n4 s 0) (n4 s 1) (n4 s 2) (n4 s 3)
theorem fourO_iff {s : ByteArray} : fourO s = true ↔ (nmO s = true ∧ (nmL s).length = 4) := by unfold fourO; rw [Bool.and_eq_true, decide_eq_true_eq]
theorem raO_no {s : ByteArray} (h : fourO s = false) : raO s = false := by unfold raO; rw [h]; rfl
/-- what is read: the numbers, or none -/
def raV (s : ByteArray) (k : Nat) : Nat := if raO s then n4 s k else 0
end Go.Proofs.YtknabmknboffgaaGreatDoor
