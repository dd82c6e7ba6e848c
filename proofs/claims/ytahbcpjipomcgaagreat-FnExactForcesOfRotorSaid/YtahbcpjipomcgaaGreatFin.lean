/- When a sum, a product is a number. No statement is proved here. -/
import Derived.Test.YtahbcpjipomcgaaGreatSpan
import Derived.Test.YtahbcpjipomcgaaGreatRot
import Derived.Test.YtahbcpjipomcgaaGreatNotFin
import Derived.Test.YtahbcpjipomcgaaGreatFsure
namespace Go.Proofs.YtahbcpjipomcgaaGreat
open Go Go.RowKit
theorem some0_of {k : FloatKind} {x : Nat} (hx : fin k x = true) (hz : k.format.order x 0 ≠ some .eq) : some0 k x := by
  obtain ⟨s, m, i, d1⟩ := number_of_fin hx
  refine ⟨s, m, i, d1, ?_⟩
  rintro rfl
  refine hz ?_
  have d0 : ∃ e, k.decode 0 = .number false 0 e := by
    cases k
    · exact ⟨-149, by decide +kernel⟩
    · exact ⟨-1074, by decide +kernel⟩
  obtain ⟨e, d0⟩ := d0
  rw [order_numbers (show k.decode x = .number s 0 i from d1) d0]
  have : ∀ s u, Ieee.signed s 0 u = 0 := by intro s u; unfold Ieee.signed; cases s <;> simp
  rw [this, this]; rfl
theorem cnt_some0 {c : Int} (h1 : 1 ≤ c) (h2 : c ≤ 6) : some0 .f32 (floatOfInt .f32 c) := by
  have : c = 1 ∨ c = 2 ∨ c = 3 ∨ c = 4 ∨ c = 5 ∨ c = 6 := by omega
  rcases this with rfl | rfl | rfl | rfl | rfl | rfl
  · exact ⟨false, 8388608, -23, by decide +kernel, by decide⟩
  · exact ⟨false, 8388608, -22, by decide +kernel, by decide⟩
  · exact ⟨false, 12582912, -22, by decide +kernel, by decide⟩
  · exact ⟨false, 8388608, -21, by decide +kernel, by decide⟩
  · exact ⟨false, 10485760, -21, by decide +kernel, by decide⟩
  · exact ⟨false, 12582912, -21, by decide +kernel, by decide⟩
theorem ring_some0 : some0 .f32 1086918619 := ⟨false, 13176795, -21, by decide +kernel, by decide⟩
theorem two_some0 : some0 .f32 1073741824 := ⟨false, 8388608, -22, by decide +kernel, by decide⟩
theorem fin_between {x lo hi : Nat} (h1 : gtr32 x lo = true) (h2 : lss32 x hi = true) : fin .f32 x = true := by
  unfold gtr32 Ieee.Format.order at h1
  unfold lss32 Ieee.Format.order at h2
  have d1 : FloatKind.f32.format.read x = FloatKind.f32.decode x := rfl
  rw [d1] at h1 h2
  cases hx : FloatKind.f32.decode x with
  | number s m i => unfold fin; rw [hx]
  | nan s f => rw [hx] at h1; cases FloatKind.f32.format.read lo <;> cases h1
  | infinity s =>
    have k1 : ∀ d, ((Ieee.Datum.infinity false).order d == some .lt) = false := by
      intro d
      cases d with
      | number s m i => rfl
      | infinity t => cases t <;> rfl
      | nan s f => rfl
    have k2 : ∀ d, ((Ieee.Datum.infinity true).order d == some .gt) = false := by
      intro d
      cases d with
      | number s m i => rfl
      | infinity t => cases t <;> rfl
      | nan s f => rfl
    rw [hx] at h1 h2
    cases s
    · rw [k1] at h2; cases h2
    · rw [k2] at h1; cases h1
theorem sts_at {s : List Nat} {hub tip n : Nat} (h : sts s hub tip n = true) : ∀ j, j < n → stStep s hub tip j = true := by
  induction n with
  | zero => intro j hj; omega
  | succ n ih =>
    simp only [sts, Bool.and_eq_true] at h
    intro j hj
    by_cases e : j = n
    · rw [e]; exact h.2
    · exact ih h.1 j (by omega)
/-- what a valid rotor's numbers are -/
structure RotAt (s : List Nat) (c : Int) (hub tip k : Nat) : Prop where
  c1 : 1 ≤ c
  c6 : c ≤ 6
  hub : fin .f32 hub = true
  tip : fin .f32 tip = true
  rad : fin .f32 (rad s k) = true
  chd : fin .f32 (chd s k) = true
  twi : fin .f32 (twi s k) = true
theorem rotAt {a l d s : List Nat} {n : Nat} {c : Int} {hub tip k : Nat} (h : validR a l d s n c hub tip = true) (hk : k < n) : RotAt s c hub tip k := by
  unfold validR at h
  simp only [Bool.and_eq_true] at h
  obtain ⟨-, hz, hh, ht, hs⟩ := h
  have hz := of_decide_eq_true hz
  have hst := sts_at hs k hk
  unfold stStep posi at hst
  simp only [Bool.and_eq_true] at hst
  unfold amount at hh
  rw [Bool.and_eq_true] at hh
  exact ⟨hz.1, hz.2.1, hh.1, ht, fin_between hst.1.1 hst.1.2, hst.2.1.1, hst.2.2⟩
theorem fop_sureC {op : BinOp} {k : FloatKind} {x y : Nat} (h : isn k (fop op k x y) = false) : ∃ r, (∀ w, fopV op k x y w = r) ∧ fopN op k x y = 0 ∧ isn k r = false := ⟨_, (fop_sure h).1, (fop_sure h).2, h⟩
end Go.Proofs.YtahbcpjipomcgaaGreat
