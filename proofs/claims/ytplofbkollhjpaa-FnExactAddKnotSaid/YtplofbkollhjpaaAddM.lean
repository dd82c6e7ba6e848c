/- AddKnot: a list with one number more. No statement is proved here. -/
import Derived.Test.YtplofbkollhjpaaCutM
namespace Go.Proofs.Ytplofbkollhjpaa
open Go Go.RowKit
/-- whether it was put among the first k -/
def addP (a : List Nat) (q : Nat) : Nat → Bool
  | 0 => false
  | k + 1 => addP a q k || lss32 q (a.getD k 0)
/-- the first k numbers, x among them -/
def addK (a xs : List Nat) (q x : Nat) : Nat → List Nat
  | 0 => []
  | k + 1 => (if !addP a q k && lss32 q (a.getD k 0) then addK a xs q x k ++ [x] else addK a xs q x k) ++ [xs.getD k 0]
def addL (a xs : List Nat) (q x : Nat) : List Nat := if addP a q a.length then addK a xs q x a.length else addK a xs q x a.length ++ [x]
def addO (a l d : List Nat) (q u v : Nat) : Bool := validP a l d && (within q 3204448256 1056964608 && validP (addL a a q q) (addL a l q u) (addL a d q v))
theorem addK_length (a xs : List Nat) (q x : Nat) : ∀ k, (addK a xs q x k).length = k + (addP a q k).toNat := by
  intro k
  induction k with
  | zero => rfl
  | succ k ih =>
    simp only [addK, addP]
    cases h1 : addP a q k <;> cases h2 : lss32 q (a.getD k 0) <;> simp [ih, h1] <;> omega
theorem addL_length (a xs : List Nat) (q x : Nat) : (addL a xs q x).length = a.length + 1 := by
  unfold addL
  cases h : addP a q a.length
  · rw [if_neg (by simp), List.length_append, addK_length, h]; rfl
  · rw [if_pos rfl, addK_length, h]; rfl
theorem add_few (a l d : List Nat) (q u v : Nat) : Few (gLp (addO a l d q u v) (addL a a q q)) (gLp (addO a l d q u v) (addL a l q u)) (gLp (addO a l d q u v) (addL a d q v)) :=
  gL_few (fun h => by unfold addO at h; rw [Bool.and_eq_true, Bool.and_eq_true] at h; exact sized_of h.2.2)
theorem addO_v {a l d : List Nat} {q u v : Nat} (h : validP a l d = false) : addO a l d q u v = false := by unfold addO; rw [h]; rfl
theorem addO_w {a l d : List Nat} {q u v : Nat} (h : within q 3204448256 1056964608 = false) : addO a l d q u v = false := by unfold addO; rw [h, Bool.false_and, Bool.and_false]
theorem addO_y {a l d : List Nat} {q u v : Nat} (h : validP a l d = true) (h2 : within q 3204448256 1056964608 = true) : addO a l d q u v = validP (addL a a q q) (addL a l q u) (addL a d q v) := by unfold addO; rw [h, h2]; rfl
end Go.Proofs.Ytplofbkollhjpaa
