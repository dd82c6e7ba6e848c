/- Products of amounts: not below 0, so what is not finite is infinity. The first greatest of such numbers. No statement is proved here. -/
import Derived.Test.YtmadlabnhjhfiaaNotFin
import Derived.Test.YtmadlabnhjhfiaaGreat
namespace Go.Proofs.Ytmadlabnhjhfiaa
open Go Go.RowKit
/-- not below 0 -/
def nn : Ieee.Datum → Prop
  | .number s m _ => s = false ∨ m = 0
  | .infinity s => s = false
  | .nan .. => False
theorem nn_word (f : Ieee.Format) {r : Nat} (h : r ≤ f.infRung) : nn (f.read (f.word false r)) := by
  have hs := f.infRung_lt
  have hr : r / f.signWeight = 0 := Nat.div_eq_of_lt (by omega)
  show nn (f.read r)
  unfold Ieee.Format.read
  simp only [hr]
  split
  · exact .inl rfl
  · split
    · exact .inl rfl
    · rw [if_pos (by rw [Nat.mod_eq_of_lt (by omega)] at *; omega)]; rfl
theorem nn_word0 (f : Ieee.Format) (s : Bool) : nn (f.read (f.word s 0)) := by
  have hm : f.word s 0 % f.signWeight = 0 := by
    unfold Ieee.Format.word; split
    · rw [Nat.add_zero, Nat.mod_self]
    · exact Nat.zero_mod _
  unfold Ieee.Format.read
  simp only [hm]
  rw [if_pos (show 0 < f.binade from Nat.two_pow_pos _)]
  exact .inr rfl
theorem nn_write (f : Ieee.Format) {d : Ieee.Datum} (h : nn d) : nn (f.read (f.write d)) := by
  cases d with
  | number s m e =>
    show nn (f.read (f.nearest s m e))
    unfold Ieee.Format.nearest
    split
    · exact nn_word0 f s
    · rename_i h0
      rcases h with h | h
      · subst h; exact nn_word f (Nat.min_le_right ..)
      · exact absurd h h0
  | infinity s => cases h; exact nn_word f (Nat.le_refl _)
  | nan s t => exact h.elim
theorem nn_mul {k : FloatKind} {x y : Nat} (hx : nn (k.format.read x)) (hy : nn (k.format.read y)) (fx : fin k x = true) (fy : fin k y = true) : nn (k.format.read (fop .mul k x y)) := by
  obtain ⟨s, m, i, dx⟩ := number_of_fin fx
  obtain ⟨t, n, j, dy⟩ := number_of_fin fy
  rw [dx] at hx
  rw [dy] at hy
  have hb : floatBits .mul k x y = some (k.format.write (.number (s ^^ t) (m * n) (i + j))) := by
    unfold floatBits Ieee.Format.mul
    simp only []
    rw [dx, dy]
    rfl
  have hw : nn (Ieee.Datum.number (s ^^ t) (m * n) (i + j)) := by
    rcases hx with rfl | rfl
    · rcases hy with rfl | rfl
      · exact .inl rfl
      · exact .inr (Nat.mul_zero _)
    · exact .inr (Nat.zero_mul _)
  unfold fop
  rw [hb]
  simp only [Option.getD_some]
  rw [canon_of_not (write_not_nan k.format rfl)]
  exact nn_write _ hw
theorem nn_amount {x : Nat} (h : amount x = true) : nn (FloatKind.f32.format.read x) := by
  unfold amount at h
  rw [Bool.and_eq_true] at h
  obtain ⟨s, m, i, d⟩ := number_of_fin h.1
  rw [d]
  cases s
  · exact .inl rfl
  · by_cases h0 : m = 0
    · exact .inr h0
    · exfalso
      have h2 := h.2
      unfold geq32 Ieee.Format.order at h2
      rw [d, show FloatKind.f32.format.read 0 = .number false 0 (-149) by decide +kernel] at h2
      have hp : 0 < m <<< (i - min i (-149)).toNat := by
        rw [Nat.shiftLeft_eq]
        exact Nat.mul_pos (by omega) (Nat.two_pow_pos _)
      have hlt : Ieee.signed true m (i - min i (-149)).toNat < Ieee.signed false 0 (-149 - min i (-149)).toNat := by
        unfold Ieee.signed
        simp only [Nat.zero_shiftLeft, if_true, Bool.false_eq_true, if_false]
        omega
      simp only [Ieee.Datum.order] at h2
      rw [show compare (Ieee.signed true m (i - min i (-149)).toNat) (Ieee.signed false 0 (-149 - min i (-149)).toNat) = .lt by simp only [compare, compareOfLessAndEq, if_pos hlt]] at h2
      exact absurd h2 (by decide)
theorem inf_of {x : Nat} (h : nn (FloatKind.f32.format.read x)) (hf : fin .f32 x = false) : FloatKind.f32.format.read x = .infinity false := by
  rcases num_or (k := .f32) x with h1 | ⟨s, h1⟩ | ⟨s, f, h1⟩
  · rw [h1] at hf; cases hf
  · rw [h1] at h; rw [h1, show s = false from h]
  · rw [h1] at h; exact h.elim
theorem nn_isn {x : Nat} (h : nn (FloatKind.f32.format.read x)) : isn .f32 x = false := by
  unfold isn FloatKind.decode
  cases hd : FloatKind.f32.format.read x <;> rw [hd] at h
  · rfl
  · rfl
  · exact h.elim
theorem inf_fin {x : Nat} (h : FloatKind.f32.format.read x = .infinity false) : fin .f32 x = false := by
  unfold fin FloatKind.decode; rw [h]
theorem gtr_inf {x y : Nat} (hx : FloatKind.f32.format.read x = .infinity false) (hy : fin .f32 y = true) : gtr32 x y = true := by
  obtain ⟨t, n, j, dy⟩ := number_of_fin hy
  unfold gtr32 Ieee.Format.order
  rw [hx, dy]; rfl
theorem gtr_to_inf {x y : Nat} (hy : FloatKind.f32.format.read y = .infinity false) : gtr32 x y = false := by
  unfold gtr32 Ieee.Format.order
  rw [hy]
  cases FloatKind.f32.format.read x with
  | number s m i => rfl
  | infinity s => cases s <;> rfl
  | nan s f => rfl
theorem fg_inf {xs : List Nat} : ∀ k, (∀ j, j < k → nn (FloatKind.f32.format.read (xs.getD j 0))) → (∀ j, j < k → fin .f32 (xs.getD j 0) = true) ∨ ∃ b, fg xs k = some b ∧ FloatKind.f32.format.read (xs.getD b 0) = .infinity false := by
  intro k; induction k with
  | zero => intro _; exact .inl (fun j hj => absurd hj (Nat.not_lt_zero j))
  | succ k ih =>
    intro hn
    have hnn := nn_isn (hn k (by omega))
    rcases ih (fun j hj => hn j (by omega)) with h | ⟨b, hb, hi⟩
    · cases hf : fin .f32 (xs.getD k 0)
      · have hi := inf_of (hn k (by omega)) hf
        refine .inr ⟨k, ?_, hi⟩
        show fgStep xs k (fg xs k) = _
        unfold fgStep
        rw [hnn]
        cases hc : fg xs k with
        | none => rfl
        | some c => simp only [Bool.false_eq_true, if_false]; rw [gtr_inf hi (h c (fg_lt _ _ _ hc))]; rfl
      · refine .inl (fun j hj => ?_)
        by_cases e : j = k
        · rw [e]; exact hf
        · exact h j (by omega)
    · refine .inr ⟨b, ?_, hi⟩
      show fgStep xs k (fg xs k) = _
      unfold fgStep
      rw [hnn, hb]
      simp only [Bool.false_eq_true, if_false]
      rw [gtr_to_inf hi]; rfl
theorem gtr_canon {a b c d : Nat} (h : canon .f32 a = canon .f32 c) (h' : canon .f32 b = canon .f32 d) : gtr32 a b = gtr32 c d := by
  unfold gtr32
  rw [← order_canon, h, h', order_canon]
theorem fg_congr {xs ys : List Nat} : ∀ k, (∀ j, j < k → canon .f32 (xs.getD j 0) = canon .f32 (ys.getD j 0)) → fg xs k = fg ys k := by
  intro k; induction k with
  | zero => intro _; rfl
  | succ k ih =>
    intro h
    show fgStep xs k (fg xs k) = fgStep ys k (fg ys k)
    have e1 := ih (fun j hj => h j (by omega))
    unfold fgStep
    rw [isn_of_canon (h k (by omega)), e1]
    cases hc : fg ys k with
    | none => rfl
    | some c =>
      dsimp only
      rw [gtr_canon (h k (by omega)) (h c (by have := fg_lt _ _ _ hc; omega))]
theorem mul_fin2 {x y : Nat} (h : fin .f32 (fop .mul .f32 x y) = true) : fin .f32 x = true ∧ fin .f32 y = true := by
  constructor
  · cases hx : fin .f32 x
    · rw [mulL_not_fin hx] at h; cases h
    · rfl
  · cases hy : fin .f32 y
    · rw [mulR_not_fin hy] at h; cases h
    · rfl
theorem amount_canon {x : Nat} (h : amount x = true) : canon .f32 x = x := canon_of_not (nn_isn (nn_amount h))
theorem nn_canon {x : Nat} (h : amount x = true) : nn (FloatKind.f32.format.read (canon .f32 x)) := by rw [amount_canon h]; exact nn_amount h
end Go.Proofs.Ytmadlabnhjhfiaa
