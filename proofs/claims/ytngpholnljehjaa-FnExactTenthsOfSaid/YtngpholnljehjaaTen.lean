/- TenthsOf: plain mathematics of the logarithm's operations. No statement is proved here. -/
import Derived.Test.YtngpholnljehjaaExact
import Derived.Test.YtngpholnljehjaaAng
namespace Go.Proofs.Ytngpholnljehjaa
open Go Go.RowKit
theorem ten_two : FloatKind.f64.decode 4611686018427387904 = .number false 4503599627370496 (-51) := by decide +kernel
theorem ten_15 : FloatKind.f64.decode 4609434218613702656 = .number false 6755399441055744 (-52) := by decide +kernel
theorem ten_75 : FloatKind.f64.decode 4604930618986332160 = .number false 6755399441055744 (-53) := by decide +kernel
theorem ten_one : FloatKind.f64.decode 4607182418800017408 = .number false 4503599627370496 (-52) := by decide +kernel
theorem ten_zero32 : FloatKind.f32.decode 0 = .number false 0 (-149) := by decide +kernel
theorem ten_pos {p : Nat} (hf : fin .f32 p = true) (hl : (FloatKind.f32.format.order p 0 == some .lt || FloatKind.f32.format.order p 0 == some .eq) = false) : ∃ m e, FloatKind.f32.decode p = .number false m e ∧ m ≠ 0 := by
  obtain ⟨s, m, e, hd⟩ := fin_number hf
  rw [order_numbers hd ten_zero32, cmp_lt, cmp_eq] at hl
  simp only [Ieee.signed, Bool.false_eq_true, if_false, Nat.shiftLeft_eq, Nat.zero_mul, Int.natCast_zero, Bool.or_eq_false_iff, decide_eq_false_iff_not] at hl
  cases s
  · refine ⟨m, e, hd, fun h0 => ?_⟩
    subst h0
    simp at hl
  · exfalso
    simp only [if_true] at hl
    generalize m * 2 ^ (e - min e (-149)).toNat = B at hl
    omega
/-- a number of 53 digits -/
structure Nrm (x M : Nat) (E : Int) : Prop where
  d : FloatKind.f64.decode x = .number false M E
  lo : 2 ^ 52 ≤ M
  hi : M < 2 ^ (52 + 1)
theorem ten_enc {M : Nat} {E : Int} (g : Nat) (lo : 2 ^ 52 ≤ M) (hi : M < 2 ^ (52 + 1)) (h1 : -1074 ≤ E) (h2 : E ≤ 900) :
    FloatKind.f64.decode (FloatKind.f64.encode (.number false (M * 2 ^ g) (E - (g : Int)))) = .number false M E := by
  have h0 : M ≠ 0 := by have := Nat.two_pow_pos 52; omega
  have hl : M.log2 = 52 := log2_at lo hi
  have hm0 : M * 2 ^ g ≠ 0 := Nat.mul_ne_zero h0 (by have := Nat.two_pow_pos g; omega)
  have hlt : (E - -1074).toNat * 2 ^ 52 + M < FloatKind.f64.format.infRung := by
    rw [f64_inf]
    have : (E - -1074).toNat ≤ 2000 := by omega
    have := Nat.mul_le_mul_right (2 ^ 52) this
    have e3 : (2 : Nat) ^ (52 + 1) = 2 * 2 ^ 52 := by decide
    omega
  show FloatKind.f64.format.read (FloatKind.f64.format.nearest false (M * 2 ^ g) (E - (g : Int))) = _
  unfold Ieee.Format.nearest
  rw [if_neg hm0]
  simp only [f64_frac, f64_least, f64_binade, log2_mul M g h0]
  have hp : max (E - (g : Int) + ((M.log2 + g : Nat) : Int) - ((52 : Nat) : Int)) (-1074) = E := by rw [hl]; omega
  rw [hp, show (E - (g : Int) - E).toNat = 0 by omega, show (E - (E - (g : Int))).toNat = g by omega, Nat.shiftLeft_zero, cut_mul false M g h0]
  rw [Nat.min_eq_left (Nat.le_of_lt hlt)]
  exact read_rung fmt64 false h1 lo hi hlt
theorem Nrm.twice {x M : Nat} {E : Int} (h : Nrm x M E) (h1 : -1000 ≤ E) (h2 : E ≤ 800) : Nrm (fop .mul .f64 x 4611686018427387904) M (E + 1) := by
  have e : floatBits .mul .f64 x 4611686018427387904 = some (FloatKind.f64.encode (.number false (M * 2 ^ 52) (E + 1 - ((52 : Nat) : Int)))) := by
    unfold floatBits Ieee.Format.mul
    rw [show FloatKind.f64.format.read x = .number false M E from h.d, show FloatKind.f64.format.read 4611686018427387904 = .number false 4503599627370496 (-51) from ten_two]
    rw [show E + 1 - ((52 : Nat) : Int) = E + -51 by omega, show (2 : Nat) ^ 52 = 4503599627370496 by decide]
    rfl
  refine ⟨?_, h.lo, h.hi⟩
  unfold fop
  rw [e, Option.getD_some, canon_of_not (isn_encode rfl)]
  exact ten_enc 52 h.lo h.hi (by omega) (by omega)
theorem Nrm.half {x M : Nat} {E : Int} (h : Nrm x M E) (h1 : -1000 ≤ E) (h2 : E ≤ 800) : Nrm (fop .quo .f64 x 4611686018427387904) M (E - 1) := by
  have hl : M.log2 = 52 := log2_at h.lo h.hi
  have e : floatBits .quo .f64 x 4611686018427387904 = some (FloatKind.f64.encode (.number (false ^^ false) (2 * (M <<< (FloatKind.f64.format.fractionBits + 2 + (4503599627370496 : Nat).log2 - M.log2) / 4503599627370496) + (M <<< (FloatKind.f64.format.fractionBits + 2 + (4503599627370496 : Nat).log2 - M.log2) % 4503599627370496 != 0).toNat) (E - (-51) - ((FloatKind.f64.format.fractionBits + 2 + (4503599627370496 : Nat).log2 - M.log2 : Nat) : Int) - 1))) := by
    unfold floatBits Ieee.Format.div
    rw [show FloatKind.f64.format.read x = .number false M E from h.d, show FloatKind.f64.format.read 4611686018427387904 = .number false 4503599627370496 (-51) from ten_two]
    simp only [Ieee.Datum.quotient, if_neg (show (4503599627370496 : Nat) ≠ 0 by decide)]
    rfl
  have hm : FloatKind.f64.format.fractionBits + 2 + (4503599627370496 : Nat).log2 - M.log2 = 54 := by rw [hl]; decide +kernel
  rw [hm, Nat.shiftLeft_eq, show (2 : Nat) ^ 54 = 4 * 4503599627370496 by decide, ← Nat.mul_assoc, Nat.mul_div_cancel _ (by decide), Nat.mul_mod_left] at e
  have e2 : (Ieee.Datum.number (false ^^ false) (2 * (M * 4) + ((0 : Nat) != 0).toNat) (E - (-51) - ((54 : Nat) : Int) - 1)) = .number false (M * 2 ^ 3) (E - 1 - ((3 : Nat) : Int)) := by
    rw [show E - (-51) - ((54 : Nat) : Int) - 1 = E - 1 - ((3 : Nat) : Int) by omega, show 2 * (M * 4) + ((0 : Nat) != 0).toNat = M * 2 ^ 3 by simp; omega]
    rfl
  rw [e2] at e
  refine ⟨?_, h.lo, h.hi⟩
  unfold fop
  rw [e, Option.getD_some, canon_of_not (isn_encode rfl)]
  exact ten_enc 3 h.lo h.hi (by omega) (by omega)
/-- at least 1.5; less than 0.75 -/
def tG (x : Nat) : Bool := FloatKind.f64.format.order x 4609434218613702656 == some .gt || FloatKind.f64.format.order x 4609434218613702656 == some .eq
def tL (x : Nat) : Bool := FloatKind.f64.format.order x 4604930618986332160 == some .lt
theorem tG_eq {x M : Nat} {E : Int} (h : Nrm x M E) : tG x = decide (6755399441055744 * 2 ^ (-52 - min E (-52)).toNat ≤ M * 2 ^ (E - min E (-52)).toNat) := by
  unfold tG
  rw [order_numbers h.d ten_15, cmp_gt, cmp_eq]
  simp only [Ieee.signed, Bool.false_eq_true, if_false, Nat.shiftLeft_eq]
  generalize 6755399441055744 * 2 ^ (-52 - min E (-52)).toNat = A
  generalize M * 2 ^ (E - min E (-52)).toNat = B
  rw [← Bool.decide_or]
  exact decide_eq_decide.2 (by omega)
theorem tL_eq {x M : Nat} {E : Int} (h : Nrm x M E) : tL x = decide (M * 2 ^ (E - min E (-53)).toNat < 6755399441055744 * 2 ^ (-53 - min E (-53)).toNat) := by
  unfold tL
  rw [order_numbers h.d ten_75, cmp_lt]
  simp only [Ieee.signed, Bool.false_eq_true, if_false, Nat.shiftLeft_eq]
  generalize 6755399441055744 * 2 ^ (-53 - min E (-53)).toNat = A
  generalize M * 2 ^ (E - min E (-53)).toNat = B
  exact decide_eq_decide.2 (by omega)
theorem ten_grow {a n : Nat} (h : 1 ≤ n) : 2 * a ≤ a * 2 ^ n := by
  have : 2 ^ 1 ≤ 2 ^ n := Nat.pow_le_pow_right (by decide) h
  have := Nat.mul_le_mul_left a this
  omega
theorem tG_lo {x M : Nat} {E : Int} (h : Nrm x M E) (he : E ≤ -53) : tG x = false := by
  rw [tG_eq h, show min E (-52) = E by omega, show (E - E).toNat = 0 by omega, Nat.pow_zero, Nat.mul_one]
  have := ten_grow (a := 6755399441055744) (n := (-52 - E).toNat) (by omega)
  have := h.hi
  have e3 : (2 : Nat) ^ (52 + 1) = 9007199254740992 := by decide
  exact decide_eq_false (by omega)
theorem tG_hi {x M : Nat} {E : Int} (h : Nrm x M E) (he : -51 ≤ E) : tG x = true := by
  rw [tG_eq h, show min E (-52) = -52 by omega, show ((-52 : Int) - -52).toNat = 0 by omega, Nat.pow_zero, Nat.mul_one]
  have := ten_grow (a := M) (n := (E - -52).toNat) (by omega)
  have := h.lo
  have e3 : (2 : Nat) ^ 52 = 4503599627370496 := by decide
  exact decide_eq_true (by omega)
theorem tG_mid {x M : Nat} (h : Nrm x M (-52)) : tG x = decide (6755399441055744 ≤ M) := by
  rw [tG_eq h]
  simp
theorem tL_lo {x M : Nat} {E : Int} (h : Nrm x M E) (he : E ≤ -54) : tL x = true := by
  rw [tL_eq h, show min E (-53) = E by omega, show (E - E).toNat = 0 by omega, Nat.pow_zero, Nat.mul_one]
  have := ten_grow (a := 6755399441055744) (n := (-53 - E).toNat) (by omega)
  have := h.hi
  have e3 : (2 : Nat) ^ (52 + 1) = 9007199254740992 := by decide
  exact decide_eq_true (by omega)
theorem tL_hi {x M : Nat} {E : Int} (h : Nrm x M E) (he : -52 ≤ E) : tL x = false := by
  rw [tL_eq h, show min E (-53) = -53 by omega, show ((-53 : Int) - -53).toNat = 0 by omega, Nat.pow_zero, Nat.mul_one]
  have := ten_grow (a := M) (n := (E - -53).toNat) (by omega)
  have := h.lo
  have e3 : (2 : Nat) ^ 52 = 4503599627370496 := by decide
  exact decide_eq_false (by omega)
theorem tL_mid {x M : Nat} (h : Nrm x M (-53)) : tL x = decide (M < 6755399441055744) := by
  rw [tL_eq h]
  simp
/-- less than 1.5 -/
def Lt15 (M : Nat) (E : Int) : Prop := E ≤ -53 ∨ (E = -52 ∧ M < 6755399441055744)
theorem lt15_of {x M : Nat} {E : Int} (h : Nrm x M E) (hg : tG x = false) : Lt15 M E := by
  rcases Int.lt_trichotomy E (-52) with h1 | h1 | h1
  · exact .inl (by omega)
  · subst h1
    rw [tG_mid h] at hg
    exact .inr ⟨rfl, by have := of_decide_eq_false hg; omega⟩
  · rw [tG_hi h (by omega)] at hg; cases hg
theorem lt15_up {x M : Nat} {E : Int} (h : Nrm x M E) (hg : tL x = true) : Lt15 M (E + 1) := by
  rcases Int.lt_trichotomy E (-53) with h1 | h1 | h1
  · exact .inl (by omega)
  · subst h1
    rw [tL_mid h] at hg
    exact .inr ⟨rfl, of_decide_eq_true hg⟩
  · rw [tL_hi h (by omega)] at hg; cases hg
theorem tL_E {x M : Nat} {E : Int} (h : Nrm x M E) (hg : tL x = true) : E ≤ -53 := by
  rcases Int.lt_or_le E (-52) with h1 | h1
  · omega
  · rw [tL_hi h h1] at hg; cases hg
theorem tG_E {x M : Nat} {E : Int} (h : Nrm x M E) (hg : tG x = true) : -52 ≤ E := by
  rcases Int.lt_or_le E (-52) with h1 | h1
  · rw [tG_lo h (by omega)] at hg; cases hg
  · exact h1
/-- from 0.75 to 1.5 -/
def Mid (M : Nat) (E : Int) : Prop := (E = -52 ∧ M < 6755399441055744) ∨ (E = -53 ∧ 6755399441055744 ≤ M)
theorem mid_of {x M : Nat} {E : Int} (h : Nrm x M E) (hl : Lt15 M E) (hg : tL x = false) : Mid M E := by
  rcases hl with h1 | h1
  · rcases Int.lt_or_eq_of_le h1 with h2 | h2
    · rw [tL_lo h (by omega)] at hg; cases hg
    · subst h2
      rw [tL_mid h] at hg
      exact .inr ⟨rfl, by have := of_decide_eq_false hg; omega⟩
  · exact .inl h1
/-- halving and doubling, counted -/
def dnT : Nat → Nat → Int → Nat × Int
  | 0, x, e => (x, e)
  | n + 1, x, e => if tG x then dnT n (fop .quo .f64 x 4611686018427387904) (e + 1) else (x, e)
def upT : Nat → Nat → Int → Nat × Int
  | 0, x, e => (x, e)
  | n + 1, x, e => if tL x then upT n (fop .mul .f64 x 4611686018427387904) (e - 1) else (x, e)
theorem dnT_no {n x : Nat} {e : Int} (h : tG x = false) : dnT n x e = (x, e) := by
  cases n
  · rfl
  · unfold dnT; rw [if_neg (by rw [h]; decide)]
theorem upT_no {n x : Nat} {e : Int} (h : tL x = false) : upT n x e = (x, e) := by
  cases n
  · rfl
  · unfold upT; rw [if_neg (by rw [h]; decide)]
theorem dnT_yes {n x : Nat} {e : Int} (h : tG x = true) : dnT (n + 1) x e = dnT n (fop .quo .f64 x 4611686018427387904) (e + 1) := by
  conv => lhs; unfold dnT
  rw [if_pos h]
theorem upT_yes {n x : Nat} {e : Int} (h : tL x = true) : upT (n + 1) x e = upT n (fop .mul .f64 x 4611686018427387904) (e - 1) := by
  conv => lhs; unfold upT
  rw [if_pos h]
theorem Nrm.notnan {x M : Nat} {E : Int} (h : Nrm x M E) : isn .f64 x = false := by unfold isn; rw [h.d]; rfl
/-- the way down: n halvings at most are left -/
structure Dn (D : Nat × Int) (n x : Nat) (e : Int) (M : Nat) (E : Int) : Prop where
  is : dnT n x e = D
  nrm : Nrm x M E
  n1 : E + 53 ≤ n
  e1 : -300 ≤ E
  e2 : E ≤ 300
  c1 : 0 ≤ e
  c2 : e + n ≤ 300
theorem Dn.step {D : Nat × Int} {n x : Nat} {e : Int} {M : Nat} {E : Int} (h : Dn D n x e M E) (hg : tG x = true) : ∃ k, n = k + 1 ∧ Dn D k (fop .quo .f64 x 4611686018427387904) (e + 1) M (E - 1) ∧ ((∀ w, fopV .quo .f64 x 4611686018427387904 w = fop .quo .f64 x 4611686018427387904) ∧ fopN .quo .f64 x 4611686018427387904 = 0) := by
  have h1 := tG_E h.nrm hg
  have hn := h.n1
  obtain ⟨k, rfl⟩ : ∃ k, n = k + 1 := ⟨n - 1, by omega⟩
  have hh := h.nrm.half (by have := h.e1; omega) (by have := h.e2; omega)
  have hc := h.c2
  exact ⟨k, rfl, ⟨by rw [← h.is, dnT_yes hg], hh, by omega, by omega, by have := h.e2; omega, by have := h.c1; omega, by omega⟩, fop_sure hh.notnan⟩
structure Up (U : Nat × Int) (n x : Nat) (e : Int) (M : Nat) (E : Int) : Prop where
  is : upT n x e = U
  nrm : Nrm x M E
  n1 : -52 ≤ E + n
  lt : Lt15 M E
  e1 : -300 ≤ E
  c1 : -300 ≤ e - n
  c2 : e ≤ 300
theorem Up.step {U : Nat × Int} {n x : Nat} {e : Int} {M : Nat} {E : Int} (h : Up U n x e M E) (hg : tL x = true) : ∃ k, n = k + 1 ∧ Up U k (fop .mul .f64 x 4611686018427387904) (e - 1) M (E + 1) ∧ ((∀ w, fopV .mul .f64 x 4611686018427387904 w = fop .mul .f64 x 4611686018427387904) ∧ fopN .mul .f64 x 4611686018427387904 = 0) := by
  have h1 := tL_E h.nrm hg
  have hn := h.n1
  obtain ⟨k, rfl⟩ : ∃ k, n = k + 1 := ⟨n - 1, by omega⟩
  have hh := h.nrm.twice (by have := h.e1; omega) (by omega)
  have hc := h.c1
  exact ⟨k, rfl, ⟨by rw [← h.is, upT_yes hg], hh, by omega, lt15_up h.nrm hg, by have := h.e1; omega, by omega, by have := h.c2; omega⟩, fop_sure hh.notnan⟩
theorem Dn.up {D : Nat × Int} {n x : Nat} {e : Int} {M : Nat} {E : Int} (h : Dn D n x e M E) (hg : tG x = false) : Up (upT 300 D.1 D.2) 300 x e M E := by
  have hd := h.is
  rw [dnT_no hg] at hd
  rw [← hd]
  exact ⟨rfl, h.nrm, by have := h.e1; omega, lt15_of h.nrm hg, h.e1, by have := h.c1; omega, by have := h.c2; omega⟩
/-- the start: a power in 64 bits -/
theorem dn_start {p m : Nat} {e : Int} (h : FloatKind.f32.decode p = .number false m e) (h0 : m ≠ 0) : ∃ M E, Dn (dnT 300 (wide p) 0) 300 (wide p) 0 M E := by
  obtain ⟨h24, he, he2, hn⟩ := f32_norm h
  have hl1 : m.log2 ≤ 23 := by have := (Nat.log2_lt h0 (k := 24)).2 h24; omega
  have b1 : 2 ^ 52 ≤ m * 2 ^ (52 - m.log2) := by
    have := Nat.mul_le_mul_right (2 ^ (52 - m.log2)) (Nat.log2_self_le h0)
    rwa [← Nat.pow_add, show m.log2 + (52 - m.log2) = 52 by omega] at this
  have b2 : m * 2 ^ (52 - m.log2) < 2 ^ (52 + 1) := by
    have := Nat.mul_lt_mul_of_pos_right (Nat.lt_log2_self (n := m)) (Nat.two_pow_pos (52 - m.log2))
    rwa [← Nat.pow_add, show m.log2 + 1 + (52 - m.log2) = 52 + 1 by omega] at this
  exact ⟨_, _, rfl, ⟨wide_decode h h0, b1, b2⟩, by omega, by omega, by omega, by omega, by omega⟩
/-- the row of the logarithm -/
def lgq (u : Nat) : Nat → Nat
  | 0 => 0
  | j + 1 => fop .add .f64 (fop .quo .f64 4607182418800017408 (floatOfInt .f64 (25 - 2 * (j : Int)))) (fop .mul .f64 u (lgq u j))
theorem odd_bgT : ∀ j : Nat, j < 13 → Bg .f64 0 (floatOfInt .f64 (25 - 2 * (j : Int))) := by
  intro j hj
  have : j = 0 ∨ j = 1 ∨ j = 2 ∨ j = 3 ∨ j = 4 ∨ j = 5 ∨ j = 6 ∨ j = 7 ∨ j = 8 ∨ j = 9 ∨ j = 10 ∨ j = 11 ∨ j = 12 := by omega
  rcases this with rfl | rfl | rfl | rfl | rfl | rfl | rfl | rfl | rfl | rfl | rfl | rfl | rfl
  · exact ⟨false, 7036874417766400, -48, by decide +kernel, by unfold Ge2; decide⟩
  · exact ⟨false, 6473924464345088, -48, by decide +kernel, by unfold Ge2; decide⟩
  · exact ⟨false, 5910974510923776, -48, by decide +kernel, by unfold Ge2; decide⟩
  · exact ⟨false, 5348024557502464, -48, by decide +kernel, by unfold Ge2; decide⟩
  · exact ⟨false, 4785074604081152, -48, by decide +kernel, by unfold Ge2; decide⟩
  · exact ⟨false, 8444249301319680, -49, by decide +kernel, by unfold Ge2; decide⟩
  · exact ⟨false, 7318349394477056, -49, by decide +kernel, by unfold Ge2; decide⟩
  · exact ⟨false, 6192449487634432, -49, by decide +kernel, by unfold Ge2; decide⟩
  · exact ⟨false, 5066549580791808, -49, by decide +kernel, by unfold Ge2; decide⟩
  · exact ⟨false, 7881299347898368, -50, by decide +kernel, by unfold Ge2; decide⟩
  · exact ⟨false, 5629499534213120, -50, by decide +kernel, by unfold Ge2; decide⟩
  · exact ⟨false, 6755399441055744, -51, by decide +kernel, by unfold Ge2; decide⟩
  · exact ⟨false, 4503599627370496, -52, by decide +kernel, by unfold Ge2; decide⟩
theorem lgq_parts {u : Nat} (hu : Bd .f64 0 u) {j : Nat} (hj : j < 13) (hp : Bd .f64 j (lgq u j)) :
    Bd .f64 0 (fop .quo .f64 4607182418800017408 (floatOfInt .f64 (25 - 2 * (j : Int)))) ∧ Bd .f64 j (fop .mul .f64 u (lgq u j)) ∧ Bd .f64 (j + 1) (lgq u (j + 1)) := by
  have b1 := bd_quo fmt64 (a := 0) (c := 0) bd_one (odd_bgT j hj) (by decide) (by decide)
  have b2 := bd_mul fmt64 hu hp (by omega) (by omega)
  rw [Int.zero_add] at b2
  exact ⟨b1, b2, bd_add fmt64 (bd_mono b1 (by omega)) b2 (by omega) (by omega)⟩
theorem lgq_bd {u : Nat} (hu : Bd .f64 0 u) : ∀ j : Nat, j ≤ 13 → Bd .f64 j (lgq u j)
  | 0, _ => bd_zero _
  | j + 1, hj => by
    have := (lgq_parts hu (by omega) (lgq_bd hu j (by omega))).2.2
    exact_mod_cast this
theorem lgq_sure {u : Nat} (hu : Bd .f64 0 u) (j : Nat) (hj : j < 13) :
    ((∀ w, fopV .quo .f64 4607182418800017408 (floatOfInt .f64 (25 - 2 * (j : Int))) w = fop .quo .f64 4607182418800017408 (floatOfInt .f64 (25 - 2 * (j : Int)))) ∧ fopN .quo .f64 4607182418800017408 (floatOfInt .f64 (25 - 2 * (j : Int))) = 0) ∧
    ((∀ w, fopV .mul .f64 u (lgq u j) w = fop .mul .f64 u (lgq u j)) ∧ fopN .mul .f64 u (lgq u j) = 0) ∧
    ((∀ w, fopV .add .f64 (fop .quo .f64 4607182418800017408 (floatOfInt .f64 (25 - 2 * (j : Int)))) (fop .mul .f64 u (lgq u j)) w = lgq u (j + 1)) ∧ fopN .add .f64 (fop .quo .f64 4607182418800017408 (floatOfInt .f64 (25 - 2 * (j : Int)))) (fop .mul .f64 u (lgq u j)) = 0) := by
  obtain ⟨a, b, c⟩ := lgq_parts hu hj (lgq_bd hu j (by omega))
  exact ⟨bd_sure a, bd_sure b, bd_sure c⟩
end Go.Proofs.Ytngpholnljehjaa
