/- Winds: what is valid, their means. No statement is proved here. -/
import Derived.Test.YtjmhfhoohlgbiaaAirL
import Derived.Test.YtjmhfhoohlgbiaaNotFin
import Derived.Test.YtjmhfhoohlgbiaaRoot
import Derived.Test.YtjmhfhoohlgbiaaSums
namespace Go.Proofs.Ytjmhfhoohlgbiaa
open Go Go.RowKit
/-- a list of winds -/
def winV (xs : List Nat) : Bool := decide (1 ≤ xs.length ∧ xs.length ≤ 256) && amts xs xs.length
theorem winV_len {xs : List Nat} (h : winV xs = true) : 1 ≤ xs.length ∧ xs.length ≤ 256 := by
  unfold winV at h; rw [Bool.and_eq_true] at h; exact of_decide_eq_true h.1
theorem winV_no {xs : List Nat} (h : ¬ (1 ≤ xs.length ∧ xs.length ≤ 256)) : winV xs = false := by unfold winV; rw [decide_eq_false h]; rfl
theorem winV_yes {xs : List Nat} (h : 1 ≤ xs.length ∧ xs.length ≤ 256) : winV xs = amts xs xs.length := by unfold winV; rw [decide_eq_true h]; rfl
def cntN (n : Nat) : Nat := canon .f32 (floatOfInt .f32 (n : Int))
/-- the mean of winds -/
def meanV (xs : List Nat) : Nat := fop .quo .f32 (sumK xs xs.length) (cntN xs.length)
def mwO (xs : List Nat) : Bool := winV xs && fin .f32 (meanV xs)
def mwR (xs : List Nat) : Nat := if winV xs then onlyN (meanV xs) else 0
/-- the sum of squares of what numbers are more than another one -/
def sqAt (xs : List Nat) (m k : Nat) : Nat := fop .mul .f32 (fop .sub .f32 (canon .f32 (xs.getD k 0)) m) (fop .sub .f32 (canon .f32 (xs.getD k 0)) m)
def sqK (xs : List Nat) (m : Nat) : Nat → Nat
  | 0 => 0
  | k + 1 => fop .add .f32 (sqK xs m k) (sqAt xs m k)
def sprV (xs : List Nat) : Nat := canon .f32 (rootF (fop .quo .f32 (sqK xs (meanV xs) xs.length) (cntN xs.length)))
def sprO (xs : List Nat) : Bool := winV xs && fin .f32 (sprV xs)
def sprR (xs : List Nat) : Nat := if winV xs then onlyN (sprV xs) else 0
theorem sqK_not_fin (xs : List Nat) {m : Nat} (hm : fin .f32 m = false) : ∀ k, 1 ≤ k → fin .f32 (sqK xs m k) = false := by
  intro k; cases k with
  | zero => intro h; omega
  | succ k => intro _; exact addR_not_fin (mulL_not_fin (subR_not_fin hm))
theorem root_not_fin {c : Nat} (h : fin .f32 c = false) : fin .f32 (canon .f32 (rootF c)) = false := by
  rw [fin_canon]
  cases hd : FloatKind.f32.decode c with
  | nan s f =>
    have hn : isn .f32 c = true := isn_iff.2 ⟨s, f, hd⟩
    have h1 : isn .f64 (canon .f64 (wide c)) = true := by rw [isn_canon, isn_wide, hn]
    unfold rootF fsqrt
    rw [sqrt_nan h1]; decide +kernel
  | infinity s =>
    have hn : isn .f32 c = false := by unfold isn; rw [hd]; rfl
    have hw : wide c = FloatKind.f64.encode (.infinity s) := by unfold wide; rw [if_neg (by rw [hn]; decide), hd]
    unfold rootF
    rw [hw]
    cases s <;> decide +kernel
  | number s m e => unfold fin at h; rw [hd] at h; cases h
theorem sprV_mean {xs : List Nat} (h : winV xs = true) (hm : fin .f32 (meanV xs) = false) : fin .f32 (sprV xs) = false := by
  unfold sprV
  exact root_not_fin (quoL_not_fin (sqK_not_fin xs hm _ (winV_len h).1))
theorem sumK_sq {xs ys : List Nat} {m n : Nat} (h : ∀ k, k < n → canon .f32 (ys.getD k 0) = sqAt xs m k) : ∀ k, k ≤ n → sumK ys k = sqK xs m k := by
  intro k; induction k with
  | zero => intro _; rfl
  | succ k ih => intro hk; simp only [sumK, sqK, ih (by omega), h k (by omega)]
theorem onlyN_fin {x : Nat} (h : fin .f32 x = true) : onlyN x = x := by unfold onlyN; rw [h]; rfl
end Go.Proofs.Ytjmhfhoohlgbiaa
