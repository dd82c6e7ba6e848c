/- What a drive's text tells. No statement is proved here. -/
import Derived.Test.YtknabmknboffgaaGreatDoorPcs
import Derived.Test.YtknabmknboffgaaGreatDoorDrv
namespace Go.Proofs.YtknabmknboffgaaGreatDoor
open Go Go.RowKit
def dvP (s : ByteArray) (k : Nat) : Nat := (nmL (pcs 59 s 0)).getD k 0
def dvZ (s : ByteArray) : Int := vlR (pcs 59 s 1)
def dvE (s : ByteArray) (k : Nat) : Nat := (nmL (pcs 59 s 2)).getD k 0
def dvO (s : ByteArray) : Bool := decide ((cutS 59 s).length = 3) && (nmN (pcs 59 s 0) 8 && (nmN (pcs 59 s 2) 3 && vlO (pcs 59 s 1)))
theorem dvO_iff {s : ByteArray} : dvO s = true ↔ ((cutS 59 s).length = 3 ∧ nmN (pcs 59 s 0) 8 = true ∧ nmN (pcs 59 s 2) 3 = true ∧ vlO (pcs 59 s 1) = true) := by
  unfold dvO; rw [Bool.and_eq_true, Bool.and_eq_true, Bool.and_eq_true, decide_eq_true_eq]
def rdO (s : ByteArray) : Bool := dvO s && driveV (dvP s 0) (dvP s 1) (dvP s 2) (dvP s 3) (dvP s 4) (dvP s 5) (dvP s 6) (dvP s 7) (dvZ s) (dvE s 0) (dvE s 1) (dvE s 2)
end Go.Proofs.YtknabmknboffgaaGreatDoor
