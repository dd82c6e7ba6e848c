/- The pieces of a text between marks. No statement is proved here. -/
import Derived.Test.YtknabmknboffgaaGreatDoorPrt
import Derived.Test.YtknabmknboffgaaGreatDoorVal1
namespace Go.Proofs.YtknabmknboffgaaGreatDoor
open Go Go.RowKit
def pcs (c : UInt8) (s : ByteArray) (k : Nat) : ByteArray := (cutS c s).getD k ⟨#[]⟩
theorem pcs_at {c : UInt8} {s : ByteArray} {M k : Nat} (h : (cutS c s).length = M) (hk : k < M) : (cutS c s)[k]? = some (pcs c s k) := by
  have hlt : k < (cutS c s).length := by omega
  rw [pcs, List.getD_eq_getElem?_getD, List.getElem?_eq_getElem hlt]
  rfl
theorem pcs_size (c : UInt8) (s : ByteArray) (k : Nat) : (pcs c s k).size ≤ s.size := by
  by_cases hlt : k < (cutS c s).length
  · have e := pcs_at (c := c) (s := s) rfl hlt
    unfold cutS at e
    rw [List.getElem?_map] at e
    cases hg : (cutF c s.data.toList)[k]? with
    | none => rw [hg] at e; cases e
    | some l =>
      rw [hg] at e
      have e2 : (⟨l.toArray⟩ : ByteArray) = pcs c s k := by simpa using e
      rw [← e2]
      show l.toArray.size ≤ _
      rw [List.size_toArray, Lib.size_eq s]
      exact cutF_size c _ _ (List.mem_of_getElem? hg)
  · rw [pcs, List.getD_eq_getElem?_getD, List.getElem?_eq_none (by omega)]
    exact Nat.zero_le _
/-- so many numbers -/
def nmN (s : ByteArray) (n : Nat) : Bool := nmO s && decide ((nmL s).length = n)
theorem nmN_iff {s : ByteArray} {n : Nat} : nmN s n = true ↔ (nmO s = true ∧ (nmL s).length = n) := by unfold nmN; rw [Bool.and_eq_true, decide_eq_true_eq]
theorem nmN_no {s : ByteArray} {n : Nat} (h : nmN s n = false) : ¬ (nmO s = true ∧ (nmL s).length = n) := fun e => by rw [nmN_iff.2 e] at h; cases h
end Go.Proofs.YtknabmknboffgaaGreatDoor
