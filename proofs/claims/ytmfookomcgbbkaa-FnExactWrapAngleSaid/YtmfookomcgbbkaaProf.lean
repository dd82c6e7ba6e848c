/- Profiles: what is valid, how they are copied and compared. No statement is proved here. -/
import Derived.Test.YtmfookomcgbbkaaSlice
import Derived.Lib.SmallJoins
namespace Go.Proofs.Ytmfookomcgbbkaa
open Go Go.RowKit

def leq32 (a b : Nat) : Bool := FloatKind.f32.format.order a b == some .lt || FloatKind.f32.format.order a b == some .eq
def geq32 (a b : Nat) : Bool := FloatKind.f32.format.order a b == some .gt || FloatKind.f32.format.order a b == some .eq
def lss32 (a b : Nat) : Bool := FloatKind.f32.format.order a b == some .lt
def gtr32 (a b : Nat) : Bool := FloatKind.f32.format.order a b == some .gt

/-- x lies between two numbers -/
def within (x a b : Nat) : Bool := geq32 x a && leq32 x b
def amount (x : Nat) : Bool := fin .f32 x && geq32 x 0

theorem order_some {k : FloatKind} {a b : Nat} (ha : isn k a = false) (hb : isn k b = false) : (k.format.order a b).isSome = true := by
  unfold isn FloatKind.decode at ha hb
  unfold Ieee.Format.order
  cases h1 : k.format.read a <;> cases h2 : k.format.read b <;> rw [h1] at ha <;> rw [h2] at hb <;> simp_all [Ieee.Datum.order, Ieee.Datum.isNaN] <;>
    (rename_i s t; cases s <;> cases t <;> rfl)

theorem isn_of_fin {k : FloatKind} {b : Nat} (h : fin k b = true) : isn k b = false := by
  cases hn : isn k b
  · rfl
  · rw [fin_of_nan hn] at h; cases h

theorem lss_not_geq {a b : Nat} (ha : isn .f32 a = false) (hb : isn .f32 b = false) : lss32 a b = !geq32 a b := by
  have h := order_some ha hb
  unfold lss32 geq32
  cases ho : FloatKind.f32.format.order a b with
  | none => rw [ho] at h; cases h
  | some o => cases o <;> rfl

/-- the k-th angle is as it must be -/
def angStep (xs : List Nat) (k : Nat) : Bool := within (xs.getD k 0) 3204448256 1056964608 && (k == 0 || !leq32 (xs.getD k 0) (xs.getD (k - 1) 0))
def angs (xs : List Nat) : Nat → Bool
  | 0 => true
  | k + 1 => angs xs k && angStep xs k
def fins (xs : List Nat) : Nat → Bool
  | 0 => true
  | k + 1 => fins xs k && fin .f32 (xs.getD k 0)
def amts (xs : List Nat) : Nat → Bool
  | 0 => true
  | k + 1 => amts xs k && amount (xs.getD k 0)
def oks (a l d : List Nat) : Nat → Bool
  | 0 => true
  | k + 1 => oks a l d k && (angStep a k && (fin .f32 (l.getD k 0) && amount (d.getD k 0)))

theorem oks_eq (a l d : List Nat) (n : Nat) : oks a l d n = (angs a n && (fins l n && amts d n)) := by
  induction n with
  | zero => rfl
  | succ n ih =>
    simp only [oks, angs, fins, amts, ih]
    cases angs a n <;> cases fins l n <;> cases amts d n <;> cases angStep a n <;> cases fin .f32 (l.getD n 0) <;> simp

theorem angs_no {xs : List Nat} {k n : Nat} (h : angs xs k = false) (hk : k ≤ n) : angs xs n = false := by
  induction n with
  | zero => rw [show k = 0 by omega] at h; exact h
  | succ n ih =>
    by_cases e : k = n + 1
    · rw [← e]; exact h
    · simp only [angs, ih (by omega), Bool.false_and]
theorem fins_no {xs : List Nat} {k n : Nat} (h : fins xs k = false) (hk : k ≤ n) : fins xs n = false := by
  induction n with
  | zero => rw [show k = 0 by omega] at h; exact h
  | succ n ih =>
    by_cases e : k = n + 1
    · rw [← e]; exact h
    · simp only [fins, ih (by omega), Bool.false_and]
theorem amts_no {xs : List Nat} {k n : Nat} (h : amts xs k = false) (hk : k ≤ n) : amts xs n = false := by
  induction n with
  | zero => rw [show k = 0 by omega] at h; exact h
  | succ n ih =>
    by_cases e : k = n + 1
    · rw [← e]; exact h
    · simp only [amts, ih (by omega), Bool.false_and]
theorem oks_no {a l d : List Nat} {k n : Nat} (h : oks a l d k = false) (hk : k ≤ n) : oks a l d n = false := by
  induction n with
  | zero => rw [show k = 0 by omega] at h; exact h
  | succ n ih =>
    by_cases e : k = n + 1
    · rw [← e]; exact h
    · simp only [oks, ih (by omega), Bool.false_and]

/-- as many knots as there may be, in all three lists -/
def sized (a l d : List Nat) : Prop := 2 ≤ a.length ∧ a.length ≤ 24 ∧ l.length = a.length ∧ d.length = a.length
instance (a l d : List Nat) : Decidable (sized a l d) := by unfold sized; infer_instance
def validP (a l d : List Nat) : Bool := decide (sized a l d) && oks a l d a.length
end Go.Proofs.Ytmfookomcgbbkaa
