/- How great gusts are: means of winds are not negative zeros; the greatest of them. No statement is proved here. -/
import Derived.Test.YteligfbbofgonaaSmo
import Derived.Test.YteligfbbofgonaaNotFin
import Derived.Test.YteligfbbofgonaaWin
namespace Go.Proofs.Yteligfbbofgonaa
open Go Go.RowKit
/-- of the sign of +0 -/
def pz : Ieee.Datum → Prop
  | .number s _ _ => s = false
  | .infinity s => s = false
  | .nan .. => False
theorem pz_word (f : Ieee.Format) {r : Nat} (h : r ≤ f.infRung) : pz (f.read (f.word false r)) := by
  have hs := f.infRung_lt
  have hr : r / f.signWeight = 0 := Nat.div_eq_of_lt (by omega)
  show pz (f.read r)
  unfold Ieee.Format.read
  simp only [hr]
  split
  · rfl
  · split
    · rfl
    · rw [if_pos (by rw [Nat.mod_eq_of_lt (by omega)] at *; omega)]; rfl
theorem pz_write (f : Ieee.Format) {d : Ieee.Datum} (h : pz d) : pz (f.read (f.write d)) := by
  cases d with
  | number s m e =>
    cases h
    show pz (f.read (f.nearest false m e))
    unfold Ieee.Format.nearest
    split
    · exact pz_word f (Nat.zero_le _)
    · exact pz_word f (Nat.min_le_right ..)
  | infinity s => cases h; exact pz_word f (Nat.le_refl _)
  | nan s t => exact h.elim
/-- an amount: a zero, or without a sign -/
theorem amount_number {x : Nat} (h : amount x = true) : ∃ s m i, FloatKind.f32.format.read x = .number s m i ∧ (s = false ∨ m = 0) := by
  unfold amount at h
  rw [Bool.and_eq_true] at h
  obtain ⟨s, m, i, d⟩ := number_of_fin h.1
  refine ⟨s, m, i, d, ?_⟩
  cases s
  · exact .inl rfl
  · by_cases h0 : m = 0
    · exact .inr h0
    · exfalso
      have h2 := h.2
      unfold geq32 Ieee.Format.order at h2
      rw [d, show FloatKind.f32.format.read 0 = .number false 0 (-149) by decide +kernel] at h2
      have hp : 0 < m <<< (i - min i (-149)).toNat := by
        rw [Nat.shiftLeft_eq]
        exact Nat.mul_pos (by omega) (Nat.two_pow_pos _)
      have hlt : Ieee.signed true m (i - min i (-149)).toNat < Ieee.signed false 0 (-149 - min i (-149)).toNat := by
        unfold Ieee.signed
        simp only [Nat.zero_shiftLeft, if_true, Bool.false_eq_true, if_false]
        omega
      simp only [Ieee.Datum.order] at h2
      rw [show compare (Ieee.signed true m (i - min i (-149)).toNat) (Ieee.signed false 0 (-149 - min i (-149)).toNat) = .lt by simp only [compare, compareOfLessAndEq, if_pos hlt]] at h2
      exact absurd h2 (by decide)
theorem amount_canon {x : Nat} (h : amount x = true) : canon .f32 x = x := by
  unfold amount at h
  rw [Bool.and_eq_true] at h
  exact canon_of_not (isn_of_fin h.1)
theorem pz_add {x y : Nat} (fx : fin .f32 x = true) (px : pz (FloatKind.f32.format.read x)) (hy : amount y = true) : pz (FloatKind.f32.format.read (fop .add .f32 x y)) := by
  obtain ⟨s, m, i, dx⟩ := number_of_fin fx
  obtain ⟨t, n, j, dy, ht⟩ := amount_number hy
  rw [dx] at px
  cases (show s = false from px)
  have hb : floatBits .add .f32 x y = some (FloatKind.f32.format.write (.number (if Ieee.signed false m (i - min i j).toNat + Ieee.signed t n (j - min i j).toNat = 0 then false && t else decide (Ieee.signed false m (i - min i j).toNat + Ieee.signed t n (j - min i j).toNat < 0)) (Ieee.signed false m (i - min i j).toNat + Ieee.signed t n (j - min i j).toNat).natAbs (min i j))) := by
    unfold floatBits Ieee.Format.add
    simp only []
    rw [dx, dy]
    rfl
  have h1 : 0 ≤ Ieee.signed false m (i - min i j).toNat := Int.natCast_nonneg (m <<< (i - min i j).toNat)
  have h2 : 0 ≤ Ieee.signed t n (j - min i j).toNat := by
    rcases ht with rfl | rfl
    · exact Int.natCast_nonneg (n <<< (j - min i j).toNat)
    · unfold Ieee.signed; simp
  generalize Ieee.signed false m (i - min i j).toNat = a at *
  generalize Ieee.signed t n (j - min i j).toNat = b at *
  have h3 : (if a + b = 0 then false && t else decide (a + b < 0)) = false := by
    split
    · rfl
    · exact decide_eq_false (by omega)
  rw [h3] at hb
  unfold fop
  rw [hb]
  simp only [Option.getD_some]
  rw [canon_of_not (write_not_nan FloatKind.f32.format rfl)]
  exact pz_write _ rfl
theorem pz_zero : pz (FloatKind.f32.format.read 0) := by rw [show FloatKind.f32.format.read 0 = .number false 0 (-149) by decide +kernel]; rfl
theorem sumK_pz {xs : List Nat} {n : Nat} (h : ∀ j, j < n → amount (xs.getD j 0) = true) : ∀ k, k ≤ n → fin .f32 (sumK xs k) = true → pz (FloatKind.f32.format.read (sumK xs k)) := by
  intro k; induction k with
  | zero => intro _ _; exact pz_zero
  | succ k ih =>
    intro hk hf
    have ha := h k (by omega)
    simp only [sumK] at hf ⊢
    rw [amount_canon ha] at hf ⊢
    have hs := (sum_fin hf).1
    exact pz_add hs (ih (by omega) hs) ha
theorem cntN_number (n : Nat) : ∃ m i, FloatKind.f32.format.read (cntN n) = .number false m i ∨ FloatKind.f32.format.read (cntN n) = .infinity false := by
  have h : pz (FloatKind.f32.format.read (cntN n)) := by
    unfold cntN floatOfInt
    have hp : pz (Ieee.Datum.number (decide ((n : Int) < 0)) (n : Int).natAbs 0) := by
      show decide ((n : Int) < 0) = false
      exact decide_eq_false (by omega)
    have := pz_write FloatKind.f32.format hp
    rw [canon_of_not]
    · exact this
    · exact write_not_nan FloatKind.f32.format (d := .number (decide ((n : Int) < 0)) (n : Int).natAbs 0) rfl
  cases hd : FloatKind.f32.format.read (cntN n) with
  | number s m i => rw [hd] at h; cases (show s = false from h); exact ⟨m, i, .inl rfl⟩
  | infinity s => rw [hd] at h; cases (show s = false from h); exact ⟨0, 0, .inr rfl⟩
  | nan s f => rw [hd] at h; exact h.elim
/-- a mean of winds is of the sign of +0 -/
theorem mean_pz {xs : List Nat} (h : ∀ j, j < xs.length → amount (xs.getD j 0) = true) (hf : fin .f32 (meanV xs) = true) : ∃ m i, FloatKind.f32.format.read (meanV xs) = .number false m i := by
  have hs : fin .f32 (sumK xs xs.length) = true := by
    cases e : fin .f32 (sumK xs xs.length)
    · unfold meanV at hf; rw [quoL_not_fin e] at hf; cases hf
    · rfl
  have hp := sumK_pz h _ (Nat.le_refl _) hs
  obtain ⟨s, m, i, ds⟩ := number_of_fin hs
  rw [ds] at hp
  cases (show s = false from hp)
  obtain ⟨d, hd, -⟩ := fin_fop hf
  have key : pz (FloatKind.f32.format.read (meanV xs)) := by
    unfold meanV fop
    rw [hd]
    simp only [Option.getD_some]
    unfold floatBits Ieee.Format.div at hd
    simp only [] at hd
    rw [ds] at hd
    obtain ⟨n, j, hc | hc⟩ := cntN_number xs.length
    · rw [hc] at hd
      simp only [Ieee.Datum.quotient] at hd
      split at hd
      · split at hd
        · cases hd
        · simp only [Option.map_some, Option.some.injEq] at hd
          subst hd
          rw [canon_of_not (write_not_nan FloatKind.f32.format rfl)]
          exact pz_write _ rfl
      · simp only [Option.map_some, Option.some.injEq] at hd
        subst hd
        rw [canon_of_not (write_not_nan FloatKind.f32.format rfl)]
        exact pz_write _ rfl
    · rw [hc] at hd
      simp only [Ieee.Datum.quotient, Option.map_some, Option.some.injEq] at hd
      subst hd
      rw [canon_of_not (write_not_nan FloatKind.f32.format rfl)]
      exact pz_write _ rfl
  obtain ⟨s, m', i', d'⟩ := number_of_fin hf
  rw [d'] at key
  cases (show s = false from key)
  exact ⟨m', i', d'⟩
end Go.Proofs.Yteligfbbofgonaa
