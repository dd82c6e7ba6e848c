/- The first greatest number of a list. No statement is proved here. -/
import Derived.Test.YtmadlabnhjhfiaaVal
import Derived.Test.YtmadlabnhjhfiaaSums
namespace Go.Proofs.Ytmadlabnhjhfiaa
open Go Go.RowKit

/-- the first index with the greatest number of the first k ones; not-a-numbers are left out -/
def fgStep (xs : List Nat) (k : Nat) (o : Option Nat) : Option Nat :=
  if isn .f32 (xs.getD k 0) then o else
  match o with
  | none => some k
  | some b => if gtr32 (xs.getD k 0) (xs.getD b 0) then some k else some b
def fg (xs : List Nat) : Nat → Option Nat
  | 0 => none
  | k + 1 => fgStep xs k (fg xs k)
def oI : Option Nat → Int
  | none => 0
  | some b => (b : Int)
def oM (xs : List Nat) : Option Nat → Nat
  | none => 0
  | some b => xs.getD b 0
def oF : Option Nat → Bool
  | none => false
  | some _ => true
theorem fg_lt (xs : List Nat) : ∀ k b, fg xs k = some b → b < k := by
  intro k; induction k with
  | zero => intro b h; cases h
  | succ k ih =>
    intro b h
    simp only [fg, fgStep] at h
    split at h
    · have := ih b h; omega
    · split at h
      · simp at h; omega
      · rename_i c hc
        split at h
        · simp at h; omega
        · simp at h; have := ih b (by rw [hc, h]); omega
/-- no number of the list is a not-a-number -/
theorem fins_at {xs : List Nat} {n : Nat} (h : fins xs n = true) : ∀ j, j < n → fin .f32 (xs.getD j 0) = true := by
  induction n with
  | zero => intro j hj; omega
  | succ n ih =>
    intro j hj
    simp only [fins, Bool.and_eq_true] at h
    by_cases e : j = n
    · rw [e]; exact h.2
    · exact ih h.1 j (by omega)
def stallO (a l d : List Nat) : Bool := validP a l d
def stallI (a l d : List Nat) : Int := if validP a l d then oI (fg l l.length) else 0
def stallR (a l d : List Nat) : Nat := if validP a l d then canon .f32 (oM a (fg l l.length)) else 0
theorem fins_of {a l d : List Nat} (h : validP a l d = true) : fins l l.length = true := by
  rw [validP_yes (sized_of h)] at h
  simp only [Bool.and_eq_true] at h
  exact h.2.1
theorem fg_some {xs : List Nat} (h : ∀ j, j < xs.length → fin .f32 (xs.getD j 0) = true) : ∀ k, 0 < k → k ≤ xs.length → ∃ b, fg xs k = some b ∧ b < k := by
  intro k; induction k with
  | zero => intro h0; omega
  | succ k ih =>
    intro _ hk
    have hf := isn_of_fin (h k (by omega))
    have hs : ∃ b, fg xs (k + 1) = some b := by
      show ∃ b, fgStep xs k (fg xs k) = some b
      unfold fgStep
      rw [hf]
      cases fg xs k with
      | none => exact ⟨_, rfl⟩
      | some c =>
        simp only [Bool.false_eq_true, if_false]
        split
        · exact ⟨_, rfl⟩
        · exact ⟨_, rfl⟩
    obtain ⟨b, hb⟩ := hs
    exact ⟨b, hb, fg_lt _ _ _ hb⟩
end Go.Proofs.Ytmadlabnhjhfiaa
