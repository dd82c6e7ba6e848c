/- When a product is a number. No statement is proved here. -/
import Derived.Test.YtpmjikchlofebaaSin
import Derived.Test.YtpmjikchlofebaaNotFin
namespace Go.Proofs.Ytpmjikchlofebaa
open Go Go.RowKit
theorem sub_num {k : FloatKind} {x y : Nat} (hx : fin k x = true) (hy : fin k y = true) : isn k (fop .sub k x y) = false := by
  obtain ⟨s, m, i, d1⟩ := number_of_fin hx
  obtain ⟨t, n, j, d2⟩ := number_of_fin hy
  have e : ∃ s' m' e', floatBits .sub k x y = some (k.encode (.number s' m' e')) := by
    unfold floatBits Ieee.Format.sub
    rw [d1, d2]
    simp only [Ieee.Datum.opposite, Ieee.Datum.sum]
    split <;> exact ⟨_, _, _, rfl⟩
  obtain ⟨s', m', e', e⟩ := e
  unfold fop
  rw [e, Option.getD_some, isn_canon]
  exact isn_encode rfl
theorem add_num {k : FloatKind} {x y : Nat} (hx : fin k x = true) (hy : fin k y = true) : isn k (fop .add k x y) = false := by
  obtain ⟨s, m, i, d1⟩ := number_of_fin hx
  obtain ⟨t, n, j, d2⟩ := number_of_fin hy
  have e : ∃ s' m' e', floatBits .add k x y = some (k.encode (.number s' m' e')) := by
    unfold floatBits Ieee.Format.add
    rw [d1, d2]
    simp only [Ieee.Datum.sum]
    split <;> exact ⟨_, _, _, rfl⟩
  obtain ⟨s', m', e', e⟩ := e
  unfold fop
  rw [e, Option.getD_some, isn_canon]
  exact isn_encode rfl
/-- a finite number that is not nothing -/
def some0 (k : FloatKind) (x : Nat) : Prop := ∃ s m i, k.format.read x = .number s m i ∧ m ≠ 0
theorem mul_num {k : FloatKind} {x y : Nat} (hx : some0 k x) (hy : isn k y = false) : isn k (fop .mul k x y) = false := by
  obtain ⟨s, m, i, d1, h0⟩ := hx
  have e : ∃ d, d.isNaN = false ∧ floatBits .mul k x y = some (k.encode d) := by
    unfold floatBits Ieee.Format.mul
    rw [d1]
    cases h2 : k.format.read y with
    | nan t f =>
      have : isn k y = true := isn_iff.2 ⟨t, f, h2⟩
      rw [this] at hy; cases hy
    | infinity t => exact ⟨.infinity (t ^^ s), rfl, by simp only [Ieee.Datum.product, if_neg h0]; rfl⟩
    | number t n j => exact ⟨.number (s ^^ t) (m * n) (i + j), rfl, rfl⟩
  obtain ⟨d, hd, e⟩ := e
  unfold fop
  rw [e, Option.getD_some, isn_canon]
  exact isn_encode hd
theorem half_some0 : some0 .f32 1056964608 := ⟨false, 8388608, -24, by decide +kernel, by decide⟩
end Go.Proofs.Ytpmjikchlofebaa
