/- The same profiles. No statement is proved here. -/
import Derived.Test.YtknabmknboffgaaGreatDoorVal
namespace Go.Proofs.YtknabmknboffgaaGreatDoor
open Go Go.RowKit

def sameAt (xs ys : List Nat) (k : Nat) : Bool := decide (canon .f32 (xs.getD k 0) = canon .f32 (ys.getD k 0))
def sameN (xs ys : List Nat) : Nat → Bool
  | 0 => true
  | k + 1 => sameN xs ys k && sameAt xs ys k
def sameL (xs ys : List Nat) : Bool := decide (xs.length = ys.length) && sameN xs ys xs.length
def Words (xs : List Nat) : Prop := ∀ k, k < xs.length → canon .f32 (xs.getD k 0) < 4294967296
theorem words_of {xs : List Nat} (h : ∀ x ∈ xs, x < words .f32) : Words xs := by
  intro k hk
  refine canon_lt (h _ ?_)
  rw [List.getD_eq_getElem?_getD, List.getElem?_eq_getElem hk]
  exact List.getElem_mem hk
theorem sameN_no {xs ys : List Nat} {k n : Nat} (h : sameN xs ys k = false) (hk : k ≤ n) : sameN xs ys n = false := by
  induction n with
  | zero => rw [show k = 0 by omega] at h; exact h
  | succ n ih =>
    by_cases e : k = n + 1
    · rw [← e]; exact h
    · simp only [sameN, ih (by omega), Bool.false_and]
/-- a quiet call behind draws that are counted already -/
theorem quiet_more {P : Program} {f : FuncId} {args : Array Value} {w : World} {a n : Nat} {v : Value} (h : Calls P f args (w.drewN (a + n)) fun e w' => e = .returned v ∧ ∃ m, w' = (w.drewN (a + n)).drewN m) :
    Calls P f args (w.drewN (a + n)) fun e w'' => e = .returned v ∧ ∃ m, w'' = w.drewN (a + m) := by
  refine h.mono ?_
  rintro e w' ⟨he, m, hm⟩
  exact ⟨he, n + m, by rw [hm, World.drewN_drewN, Nat.add_assoc]⟩
def sameP (a l d a' l' d' : List Nat) : Bool := sameL a a' && (sameL l l' && sameL d d')
def Pair (w : World) (A A' : Option Addr) (xs ys : List Nat) : Prop := Fl w A xs ∧ Fl w A' ys ∧ Words xs ∧ Words ys ∧ xs.length ≤ 1048576
def WordsP (a l d : List Nat) : Prop := Words a ∧ Words l ∧ Words d
end Go.Proofs.YtknabmknboffgaaGreatDoor
