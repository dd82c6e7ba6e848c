/- What a guarded operation leaves, whatever its guard is. No statement is proved here. -/
import Derived.Test.YtknabmknboffgaaGreatDoorInv3
namespace Go.Proofs.YtknabmknboffgaaGreatDoor
open Go Go.RowKit
/-- the fact U where the guard is as wanted, and nothing otherwise -/
def Gd (b want : Bool) (U : Prop) (v : Value) : Prop := (b = want → U) ∧ (b = (!want) → v = undef)
theorem Gd.yes {b want : Bool} {U : Prop} {v : Value} (h : b = want) (u : U) : Gd b want U v := ⟨fun _ => u, fun h' => absurd (h.symm.trans h') (by cases want <;> decide)⟩
theorem Gd.no {b want : Bool} {U : Prop} (h : b = (!want)) : Gd b want U undef := ⟨fun h' => absurd (h'.symm.trans h) (by cases want <;> decide), fun _ => rfl⟩
theorem Gd.get {b want : Bool} {U : Prop} {v : Value} (h : Gd b want U v) (hc : b = want) : U := h.1 hc
theorem Gd.un {b want : Bool} {U : Prop} {v : Value} (h : Gd b want U v) (hc : b = (!want)) : v = undef := h.2 hc
end Go.Proofs.YtknabmknboffgaaGreatDoor
