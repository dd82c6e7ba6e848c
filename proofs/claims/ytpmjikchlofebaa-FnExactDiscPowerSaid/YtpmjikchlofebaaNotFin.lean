/- What is not finite stays so. No statement is proved here. -/
import Derived.Test.YtpmjikchlofebaaProf
namespace Go.Proofs.Ytpmjikchlofebaa
open Go Go.RowKit
theorem number_of_fin {k : FloatKind} {x : Nat} (hx : fin k x = true) : ∃ s m i, k.format.read x = .number s m i := by
  cases h1 : k.decode x with
  | nan s f => unfold fin at hx; rw [h1] at hx; cases hx
  | infinity s => unfold fin at hx; rw [h1] at hx; cases hx
  | number s m i => exact ⟨s, m, i, h1⟩
theorem fin_inf (k : FloatKind) (s : Bool) : fin k (k.encode (.infinity s)) = false := by cases k <;> cases s <;> decide +kernel
theorem num_or {k : FloatKind} (x : Nat) : fin k x = true ∨ (∃ s, k.format.read x = .infinity s) ∨ ∃ s f, k.format.read x = .nan s f := by
  cases h1 : k.decode x with
  | nan s f => exact .inr (.inr ⟨s, f, h1⟩)
  | infinity s => exact .inr (.inl ⟨s, h1⟩)
  | number s m i => left; unfold fin; rw [h1]
theorem fin_fop {k : FloatKind} {op : BinOp} {x y : Nat} (h : fin k (fop op k x y) = true) : ∃ d, floatBits op k x y = some d ∧ fin k d = true := by
  unfold fop at h
  rw [fin_canon] at h
  cases hf : floatBits op k x y with
  | some d => rw [hf] at h; exact ⟨d, rfl, h⟩
  | none => rw [hf] at h; rw [Option.getD_none, fin_of_nan (isn_qnan k)] at h; cases h
theorem sum_fin {k : FloatKind} {x y : Nat} (h : fin k (fop .add k x y) = true) : fin k x = true ∧ fin k y = true := by
  obtain ⟨d, hd, hf⟩ := fin_fop h
  unfold floatBits Ieee.Format.add at hd
  simp only [] at hd
  rcases num_or (k := k) x with hx | ⟨s, hx⟩ | ⟨s, f, hx⟩
  · rcases num_or (k := k) y with hy | ⟨t, hy⟩ | ⟨t, g, hy⟩
    · exact ⟨hx, hy⟩
    · obtain ⟨s, m, i, dx⟩ := number_of_fin hx
      rw [dx, hy] at hd
      simp only [Ieee.Datum.sum, Option.map_some, Option.some.injEq] at hd
      subst hd
      rw [show fin k (k.format.write (.infinity t)) = false from fin_inf k t] at hf; cases hf
    · obtain ⟨s, m, i, dx⟩ := number_of_fin hx
      rw [dx, hy] at hd
      cases hd
  · rcases num_or (k := k) y with hy | ⟨t, hy⟩ | ⟨t, g, hy⟩
    · obtain ⟨t, m, i, dy⟩ := number_of_fin hy
      rw [dy, hx] at hd
      simp only [Ieee.Datum.sum, Option.map_some, Option.some.injEq] at hd
      subst hd
      rw [show fin k (k.format.write (.infinity s)) = false from fin_inf k s] at hf; cases hf
    · rw [hx, hy] at hd
      simp only [Ieee.Datum.sum] at hd
      split at hd
      · simp only [Option.map_some, Option.some.injEq] at hd
        subst hd
        rw [show fin k (k.format.write (.infinity s)) = false from fin_inf k s] at hf; cases hf
      · cases hd
    · rw [hx, hy] at hd
      cases hd
  · rw [hx] at hd
    cases hy : k.format.read y <;> rw [hy] at hd <;> cases hd
theorem diff_fin {k : FloatKind} {x y : Nat} (h : fin k (fop .sub k x y) = true) : fin k x = true ∧ fin k y = true := by
  obtain ⟨d, hd, hf⟩ := fin_fop h
  unfold floatBits Ieee.Format.sub at hd
  simp only [] at hd
  rcases num_or (k := k) x with hx | ⟨s, hx⟩ | ⟨s, f, hx⟩
  · rcases num_or (k := k) y with hy | ⟨t, hy⟩ | ⟨t, g, hy⟩
    · exact ⟨hx, hy⟩
    · obtain ⟨s, m, i, dx⟩ := number_of_fin hx
      rw [dx, hy] at hd
      simp only [Ieee.Datum.opposite, Ieee.Datum.sum, Option.map_some, Option.some.injEq] at hd
      subst hd
      rw [show fin k (k.format.write (.infinity (!t))) = false from fin_inf k _] at hf; cases hf
    · obtain ⟨s, m, i, dx⟩ := number_of_fin hx
      rw [dx, hy] at hd
      cases hd
  · rcases num_or (k := k) y with hy | ⟨t, hy⟩ | ⟨t, g, hy⟩
    · obtain ⟨t, m, i, dy⟩ := number_of_fin hy
      rw [dy, hx] at hd
      simp only [Ieee.Datum.opposite, Ieee.Datum.sum, Option.map_some, Option.some.injEq] at hd
      subst hd
      rw [show fin k (k.format.write (.infinity s)) = false from fin_inf k s] at hf; cases hf
    · rw [hx, hy] at hd
      simp only [Ieee.Datum.opposite, Ieee.Datum.sum] at hd
      split at hd
      · simp only [Option.map_some, Option.some.injEq] at hd
        subst hd
        rw [show fin k (k.format.write (.infinity s)) = false from fin_inf k s] at hf; cases hf
      · cases hd
    · rw [hx, hy] at hd
      cases hd
  · rw [hx] at hd
    cases hy : k.format.read y <;> rw [hy] at hd <;> cases hd
theorem mulL_not_fin {k : FloatKind} {x y : Nat} (hx : fin k x = false) : fin k (fop .mul k x y) = false := by
  cases h : fin k (fop .mul k x y)
  · rfl
  · obtain ⟨d, hd, hf⟩ := fin_fop h
    unfold floatBits Ieee.Format.mul at hd
    simp only [] at hd
    rcases num_or (k := k) x with h1 | ⟨s, h1⟩ | ⟨s, f, h1⟩
    · rw [h1] at hx; cases hx
    · rcases num_or (k := k) y with hy | ⟨t, hy⟩ | ⟨t, g, hy⟩
      · obtain ⟨t, m, i, dy⟩ := number_of_fin hy
        rw [h1, dy] at hd
        simp only [Ieee.Datum.product] at hd
        split at hd
        · cases hd
        · simp only [Option.map_some, Option.some.injEq] at hd
          subst hd
          rw [show fin k (k.format.write (.infinity _)) = false from fin_inf k _] at hf; cases hf
      · rw [h1, hy] at hd
        simp only [Ieee.Datum.product, Option.map_some, Option.some.injEq] at hd
        subst hd
        rw [show fin k (k.format.write (.infinity _)) = false from fin_inf k _] at hf; cases hf
      · rw [h1, hy] at hd
        cases hd
    · rw [h1] at hd
      cases hy : k.format.read y <;> rw [hy] at hd <;> cases hd
theorem mulR_not_fin {k : FloatKind} {x y : Nat} (hy : fin k y = false) : fin k (fop .mul k x y) = false := by
  cases h : fin k (fop .mul k x y)
  · rfl
  · obtain ⟨d, hd, hf⟩ := fin_fop h
    unfold floatBits Ieee.Format.mul at hd
    simp only [] at hd
    rcases num_or (k := k) y with h1 | ⟨s, h1⟩ | ⟨s, f, h1⟩
    · rw [h1] at hy; cases hy
    · rcases num_or (k := k) x with hx | ⟨t, hx⟩ | ⟨t, g, hx⟩
      · obtain ⟨t, m, i, dx⟩ := number_of_fin hx
        rw [h1, dx] at hd
        simp only [Ieee.Datum.product] at hd
        split at hd
        · cases hd
        · simp only [Option.map_some, Option.some.injEq] at hd
          subst hd
          rw [show fin k (k.format.write (.infinity _)) = false from fin_inf k _] at hf; cases hf
      · rw [h1, hx] at hd
        simp only [Ieee.Datum.product, Option.map_some, Option.some.injEq] at hd
        subst hd
        rw [show fin k (k.format.write (.infinity _)) = false from fin_inf k _] at hf; cases hf
      · rw [h1, hx] at hd
        cases hd
    · rw [h1] at hd
      cases hx : k.format.read x <;> rw [hx] at hd <;> cases hd
theorem quoL_not_fin {k : FloatKind} {x y : Nat} (hx : fin k x = false) : fin k (fop .quo k x y) = false := by
  cases h : fin k (fop .quo k x y)
  · rfl
  · obtain ⟨d, hd, hf⟩ := fin_fop h
    unfold floatBits Ieee.Format.div at hd
    simp only [] at hd
    rcases num_or (k := k) x with h1 | ⟨s, h1⟩ | ⟨s, f, h1⟩
    · rw [h1] at hx; cases hx
    · rcases num_or (k := k) y with hy | ⟨t, hy⟩ | ⟨t, g, hy⟩
      · obtain ⟨t, m, i, dy⟩ := number_of_fin hy
        rw [h1, dy] at hd
        simp only [Ieee.Datum.quotient, Option.map_some, Option.some.injEq] at hd
        subst hd
        rw [show fin k (k.format.write (.infinity _)) = false from fin_inf k _] at hf; cases hf
      · rw [h1, hy] at hd
        cases hd
      · rw [h1, hy] at hd
        cases hd
    · rw [h1] at hd
      cases hy : k.format.read y <;> rw [hy] at hd <;> cases hd
theorem addR_not_fin {k : FloatKind} {x y : Nat} (hy : fin k y = false) : fin k (fop .add k x y) = false := by
  cases h : fin k (fop .add k x y)
  · rfl
  · rw [(sum_fin h).2] at hy; cases hy
theorem subR_not_fin {k : FloatKind} {x y : Nat} (hy : fin k y = false) : fin k (fop .sub k x y) = false := by
  cases h : fin k (fop .sub k x y)
  · rfl
  · rw [(diff_fin h).2] at hy; cases hy
theorem subL_not_fin {k : FloatKind} {x y : Nat} (hx : fin k x = false) : fin k (fop .sub k x y) = false := by
  cases h : fin k (fop .sub k x y)
  · rfl
  · rw [(diff_fin h).1] at hx; cases hx
theorem addL_not_fin {k : FloatKind} {x y : Nat} (hx : fin k x = false) : fin k (fop .add k x y) = false := by
  cases h : fin k (fop .add k x y)
  · rfl
  · rw [(sum_fin h).1] at hx; cases hx
end Go.Proofs.Ytpmjikchlofebaa
