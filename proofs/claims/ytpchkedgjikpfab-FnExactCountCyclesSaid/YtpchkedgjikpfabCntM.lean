/- In which bin the range of a cycle is. No statement is proved here. -/
import Derived.Test.YtpchkedgjikpfabBinM
import Derived.Test.YtpchkedgjikpfabRch
namespace Go.Proofs.Ytpchkedgjikpfab
open Go Go.RowKit
theorem cnt_key33 : ∀ c : Fin 33, key (floatOfInt .f32 (c.val : Int)) = c.val * 2 ^ 149 ∧ fin .f32 (floatOfInt .f32 (c.val : Int)) = true := by decide +kernel
theorem inf_cnt33 : ∀ c : Fin 33, ((Ieee.Datum.infinity false).order (FloatKind.f32.format.read (floatOfInt .f32 (c.val : Int))) == some .gt) = true ∧ ((Ieee.Datum.infinity false).order (FloatKind.f32.format.read (floatOfInt .f32 (c.val : Int))) == some .lt) = false := by decide +kernel
structure BinG (q : Nat) (c : Int) : Prop where
  g : geq32 q (floatOfInt .f32 c) = decide (c ≤ (wholeF q : Int))
  l : lss32 q (floatOfInt .f32 c) = decide ((wholeF q : Int) < c)
  i : ¬ c ≤ (wholeF q : Int) → floatToIntVal .f32 q .i64 = some (wholeF q : Int)
theorem binG_of {q : Nat} {c : Int} (hq : upD (FloatKind.f32.decode q)) (h1 : 0 ≤ c) (h2 : c ≤ 32) : BinG q c := by
  obtain ⟨n, hn⟩ : ∃ n : Fin 33, (n.val : Int) = c := ⟨⟨c.toNat, by omega⟩, by show ((c.toNat : Nat) : Int) = c; omega⟩
  cases hd : FloatKind.f32.decode q with
  | nan s f => rw [hd] at hq; exact hq.elim
  | infinity s =>
    rw [hd] at hq
    cases (show s = false from hq)
    have hw : wholeF q = 1000 := by unfold wholeF; rw [hd]
    have hd' : FloatKind.f32.format.read q = .infinity false := hd
    obtain ⟨i1, i2⟩ := inf_cnt33 n
    rw [hn] at i1 i2
    refine ⟨?_, ?_, fun h => absurd h ?_⟩
    · unfold geq32 Ieee.Format.order
      rw [hd', i1, hw]
      exact (decide_eq_true (by omega)).symm
    · unfold lss32 Ieee.Format.order
      rw [hd', i2, hw]
      exact (decide_eq_false (by omega)).symm
    · rw [hw]; simp; omega
  | number s m e =>
    have hs : s = false ∨ m = 0 := by rw [hd] at hq; exact hq
    obtain ⟨-, he, -, -⟩ := f32_norm hd
    have hf : fin .f32 q = true := by unfold fin; rw [hd]
    have hw : wholeF q = whole m e := by unfold wholeF; rw [hd]
    have hsig : (if s then -(wholeF q : Int) else (wholeF q : Int)) = (wholeF q : Int) := by
      cases s
      · rfl
      · rcases hs with h | h
        · cases h
        · subst h; rw [hw, whole_zero]; rfl
    obtain ⟨k1, k2⟩ := cnt_key33 n
    rw [hn] at k1 k2
    have hk : key q = ((m * 2 ^ (e + 149).toNat : Nat) : Int) := by
      unfold key
      rw [hd]
      simp only []
      unfold Ieee.signed
      rw [Nat.shiftLeft_eq]
      rcases hs with rfl | rfl
      · rfl
      · simp
    have hiff : (key (floatOfInt .f32 c) ≤ key q) ↔ c ≤ (wholeF q : Int) := by
      rw [k1, hk, hw, whole_key he, ← hn]
      generalize m * 2 ^ (e + 149).toNat = K
      have := Nat.le_div_iff_mul_le (Nat.two_pow_pos 149) (x := n.val) (y := K)
      constructor
      · intro h
        have h3 : n.val ≤ K / 2 ^ 149 := this.2 (by exact_mod_cast h)
        exact_mod_cast h3
      · intro h
        have h3 : n.val ≤ K / 2 ^ 149 := by exact_mod_cast h
        exact_mod_cast this.1 h3
    refine ⟨?_, ?_, fun h => ?_⟩
    · unfold geq32
      rw [order_key hf k2, cmp_gt, cmp_eq]
      by_cases hh : c ≤ (wholeF q : Int)
      · rw [decide_eq_true hh]
        have := hiff.2 hh
        rcases Int.lt_or_eq_of_le this with h3 | h3
        · rw [decide_eq_true h3]; rfl
        · rw [h3]; simp
      · rw [decide_eq_false hh]
        have : ¬ key (floatOfInt .f32 c) ≤ key q := fun h => hh (hiff.1 h)
        rw [decide_eq_false (by omega), decide_eq_false (by omega)]; rfl
    · rw [lss_key hf k2]
      by_cases hh : c ≤ (wholeF q : Int)
      · have := hiff.2 hh
        rw [decide_eq_false (by omega), decide_eq_false (by omega)]
      · have : ¬ key (floatOfInt .f32 c) ≤ key q := fun h => hh (hiff.1 h)
        rw [decide_eq_true (by omega), decide_eq_true (by omega)]
    · unfold floatToIntVal
      rw [hd, toInt_num, ← hw, hsig]
      have e1 : IntKind.i64.min = -9223372036854775808 := by decide
      have e2 : IntKind.i64.max = 9223372036854775807 := by decide
      simp only [e1, e2]
      rw [if_pos (by omega)]
/-- the range of a cycle is not below 0 -/
theorem rch_up {x y : Nat} (h : cyT x y = true) : upD (FloatKind.f32.decode (rchV x y)) := by
  unfold cyT at h
  simp only [Bool.and_eq_true, Bool.not_eq_true'] at h
  obtain ⟨hx, hy, hl⟩ := h
  obtain ⟨t, n, j, dx⟩ := number_of_fin hx
  obtain ⟨s, m, i, dy⟩ := number_of_fin hy
  have dx' : FloatKind.f32.format.read x = .number t n j := dx
  have dy' : FloatKind.f32.format.read y = .number s m i := dy
  have hge : Ieee.signed t n (j - min i j).toNat ≤ Ieee.signed s m (i - min i j).toNat := by
    unfold lss32 Ieee.Format.order at hl
    rw [dx', dy'] at hl
    simp only [Ieee.Datum.order] at hl
    rcases Int.lt_trichotomy (Ieee.signed s m (i - min i j).toNat) (Ieee.signed t n (j - min i j).toNat) with h | h | h
    · rw [Int.compare_eq_lt.2 h] at hl; simp at hl
    · omega
    · omega
  have hneg : Ieee.signed (!t) n (j - min i j).toNat = -Ieee.signed t n (j - min i j).toNat := by
    unfold Ieee.signed
    cases t <;> simp
  have e : ∃ (s' : Bool) (M : Nat) (E : Int), rchV x y = FloatKind.f32.format.write (.number s' M E) ∧ (s' = false ∨ M = 0) := by
    unfold rchV fop floatBits Ieee.Format.sub
    simp only []
    rw [canon_of_not (isn_of_fin hx), canon_of_not (isn_of_fin hy), dx', dy']
    simp only [Ieee.Datum.opposite, Ieee.Datum.sum, Option.map_some, Option.getD_some, hneg]
    refine ⟨_, _, _, canon_of_not (write_not_nan FloatKind.f32.format rfl), ?_⟩
    by_cases h0 : Ieee.signed s m (i - min i j).toNat + -Ieee.signed t n (j - min i j).toNat = 0
    · right; rw [h0]; rfl
    · left; rw [if_neg h0]; exact decide_eq_false (by omega)
  obtain ⟨s', M, E, e, h0⟩ := e
  rw [e]
  exact upD_write _ h0 up32
/-- its quotient with a width is not below 0 either -/
theorem quo_upD {x d : Nat} (hx : upD (FloatKind.f32.decode x)) (hd : posi d = true) : upD (FloatKind.f32.decode (fop .quo .f32 x d)) := by
  obtain ⟨n, j, dd, n0⟩ := posi_up hd
  cases dx : FloatKind.f32.decode x with
  | nan s f => rw [dx] at hx; exact hx.elim
  | infinity s =>
    rw [dx] at hx
    cases (show s = false from hx)
    have dx' : FloatKind.f32.format.read x = .infinity false := dx
    have e : fop .quo .f32 x d = FloatKind.f32.format.write (.infinity false) := by
      unfold fop floatBits Ieee.Format.div
      simp only []
      rw [dx', dd]
      simp only [Ieee.Datum.quotient, Option.map_some, Option.getD_some, Bool.xor_false]
      exact canon_of_not (write_not_nan FloatKind.f32.format rfl)
    rw [e]
    exact up_inf _
  | number s m i =>
    have hs : s = false ∨ m = 0 := by rw [dx] at hx; exact hx
    have dx' : FloatKind.f32.format.read x = .number s m i := dx
    have e : ∃ M e', fop .quo .f32 x d = FloatKind.f32.format.write (.number s M e') ∧ (m = 0 → M = 0) := by
      unfold fop floatBits Ieee.Format.div
      simp only []
      rw [dx', dd]
      simp only [Ieee.Datum.quotient, if_neg n0, Option.map_some, Option.getD_some, Bool.xor_false]
      exact ⟨_, _, canon_of_not (write_not_nan FloatKind.f32.format rfl), fun h => by subst h; simp⟩
    obtain ⟨M, e', e, h0⟩ := e
    rw [e]
    refine upD_write _ ?_ up32
    rcases hs with hs | rfl
    · exact .inl hs
    · exact .inr (h0 rfl)
theorem word_up {r q : Nat} (h : canon .f32 r = q) (hq : upD (FloatKind.f32.decode q)) : r = q := by
  have h1 : isn .f32 r = false := by rw [← isn_canon, h]; exact up_isn hq
  rw [← h, canon_of_not h1]
end Go.Proofs.Ytpchkedgjikpfab
