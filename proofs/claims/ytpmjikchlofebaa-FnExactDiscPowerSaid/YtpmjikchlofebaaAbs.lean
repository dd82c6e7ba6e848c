/- A small number less a great one: what is lost of it. No statement is proved here. -/
import Derived.Test.YtpmjikchlofebaaWrap
namespace Go.Proofs.Ytpmjikchlofebaa
open Go Go.RowKit
theorem f32_norm {b : Nat} {s : Bool} {m : Nat} {e : Int} (h : FloatKind.f32.decode b = .number s m e) : m < 2 ^ (23 + 1) ∧ -149 ≤ e ∧ e ≤ 104 ∧ (-149 < e → 2 ^ 23 ≤ m) := by
  have h' : FloatKind.f32.format.read b = .number s m e := h
  have hp : 0 < (2 : Nat) ^ 23 := Nat.two_pow_pos _
  have e3 : (2 : Nat) ^ (23 + 1) = 2 * 2 ^ 23 := by decide
  unfold Ieee.Format.read at h'
  simp only [f32_binade, f32_least, f32_inf] at h'
  split at h'
  · rename_i hr
    simp only [Ieee.Datum.number.injEq] at h'
    obtain ⟨-, rfl, rfl⟩ := h'
    exact ⟨by omega, by omega, by omega, by omega⟩
  · split at h'
    · rename_i hr
      simp only [Ieee.Datum.number.injEq] at h'
      obtain ⟨-, rfl, rfl⟩ := h'
      have := Nat.mod_lt (b % FloatKind.f32.format.signWeight) hp
      have h2 : b % FloatKind.f32.format.signWeight / 2 ^ 23 < 255 := Nat.div_lt_of_lt_mul (by omega)
      exact ⟨by omega, by omega, by omega, by omega⟩
    · split at h' <;> cases h'

/-- a number less a far greater one: the greater one's word, whatever the smaller one is -/
theorem sub_absorb {x t : Nat} {j : Int} (hx : Bd .f32 j x) {s : Bool} {M : Nat} {E : Int} (h : FloatKind.f32.decode t = .number s M E) (h1 : 2 ^ 23 ≤ M) (hE : j + 3 ≤ E) (hE2 : -146 ≤ E) :
    fop .sub .f32 x t = FloatKind.f32.format.word (!s) ((E - -149).toNat * 2 ^ 23 + M) := by
  obtain ⟨u, m, e, hd, hl⟩ := hx
  obtain ⟨h2, -, hE3, -⟩ := f32_norm h
  obtain ⟨-, he, -, hm⟩ := f32_norm hd
  have hej : e ≤ j ∨ (m = 0 ∧ e = -149) := by
    by_cases h0 : e ≤ j
    · exact .inl h0
    · have hz := hl.2 (by omega)
      refine .inr ⟨hz, ?_⟩
      by_cases h3 : -149 < e
      · have := hm h3
        have : 0 < (2 : Nat) ^ 23 := Nat.two_pow_pos _
        omega
      · omega
  have hg3 : 3 ≤ E - e := by rcases hej with h0 | ⟨-, h0⟩ <;> omega
  have hb : min e E = e := by omega
  generalize hg : (E - e).toNat = g
  have hgE : e + (g : Int) = E := by omega
  have hMG : 2 ^ 23 * 2 ^ g ≤ M * 2 ^ g := Nat.mul_le_mul_right _ h1
  have hG : 0 < 2 ^ g := Nat.two_pow_pos g
  have hr : 4 * m < 2 ^ g := by
    rcases hej with h0 | ⟨h0, -⟩
    · have h4 := hl.1
      have : 8 * 2 ^ (j - e).toNat ≤ 2 ^ g := by
        rw [show (8 : Nat) = 2 ^ 3 from rfl, ← Nat.pow_add]
        exact Nat.pow_le_pow_right (by decide) (by omega)
      have h5 : 0 < 2 ^ (j - e).toNat := Nat.two_pow_pos _
      omega
    · omega
  have hbig : m < M * 2 ^ g := by
    have : 2 ^ g ≤ 2 ^ 23 * 2 ^ g := Nat.le_mul_of_pos_left _ (Nat.two_pow_pos _)
    omega
  obtain ⟨T, hsum, hT⟩ : ∃ T, (Ieee.Datum.number u m e).sum (.number (!s) M E) = some (.number (!s) T e) ∧ (T = M * 2 ^ g + m ∨ T + m = M * 2 ^ g) := by
    simp only [Ieee.Datum.sum, hb, hg, Ieee.signed, Nat.shiftLeft_eq, Int.sub_self, Int.toNat_zero, Nat.pow_zero, Nat.mul_one]
    generalize M * 2 ^ g = A at hbig
    cases s <;> cases u <;> simp only [Bool.not_false, Bool.not_true, Bool.false_eq_true, if_false, if_true]
    · refine ⟨A - m, ?_, .inr (by omega)⟩
      rw [if_neg (by omega)]
      rw [show decide ((m : Int) + -(A : Int) < 0) = true from decide_eq_true (by omega), show ((m : Int) + -(A : Int)).natAbs = A - m by omega]
    · refine ⟨A + m, ?_, .inl rfl⟩
      rw [if_neg (by omega)]
      rw [show decide (-(m : Int) + -(A : Int) < 0) = true from decide_eq_true (by omega), show (-(m : Int) + -(A : Int)).natAbs = A + m by omega]
    · refine ⟨A + m, ?_, .inl rfl⟩
      rw [if_neg (by omega)]
      rw [show decide ((m : Int) + (A : Int) < 0) = false from decide_eq_false (by omega), show ((m : Int) + (A : Int)).natAbs = A + m by omega]
    · refine ⟨A - m, ?_, .inr (by omega)⟩
      rw [if_neg (by omega)]
      rw [show decide (-(m : Int) + (A : Int) < 0) = false from decide_eq_false (by omega), show (-(m : Int) + (A : Int)).natAbs = A - m by omega]
  have eb : floatBits .sub .f32 x t = some (FloatKind.f32.format.nearest (!s) T e) := by
    unfold floatBits Ieee.Format.sub
    have d1 : FloatKind.f32.format.read x = .number u m e := hd
    have d2 : FloatKind.f32.format.read t = .number s M E := h
    rw [d1, d2]
    exact congrArg (Option.map FloatKind.f32.format.write) hsum
  have hlt : (E - -149).toNat * 2 ^ 23 + M < FloatKind.f32.format.infRung := by
    rw [f32_inf]
    have : (E - -149).toNat ≤ 253 := by omega
    have := Nat.mul_le_mul_right (2 ^ 23) this
    have e3 : (2 : Nat) ^ (23 + 1) = 2 * 2 ^ 23 := by decide
    omega
  have hw : FloatKind.f32.format.nearest (!s) T e = FloatKind.f32.format.word (!s) (min ((E - -149).toNat * 2 ^ 23 + M) FloatKind.f32.format.infRung) :=
    nearest_absorb fmt32 (!s) h1 h2 (by omega) hgE (by omega) ⟨m, hr, hT⟩
  rw [Nat.min_eq_left (Nat.le_of_lt hlt)] at hw
  have hrd : FloatKind.f32.decode (FloatKind.f32.format.word (!s) ((E - -149).toNat * 2 ^ 23 + M)) = .number (!s) M E := read_rung fmt32 (!s) (by omega) h1 h2 hlt
  unfold fop
  rw [eb, Option.getD_some, hw, canon_of_not (by unfold isn; rw [hrd]; rfl)]

theorem fin_number {k : FloatKind} {b : Nat} (h : fin k b = true) : ∃ s m e, k.decode b = .number s m e := by
  unfold fin at h
  cases hd : k.decode b with
  | number s m e => exact ⟨s, m, e, rfl⟩
  | infinity s => rw [hd] at h; cases h
  | nan s f => rw [hd] at h; cases h
theorem le2_of {m : Nat} {e : Int} {j : Int} (h : m < 2 ^ (23 + 1)) (he : e + 24 ≤ j) : Le2 m e j :=
  ⟨Nat.le_trans (Nat.le_of_lt h) (Nat.pow_le_pow_right (by decide) (by omega)), fun h' => by omega⟩
/-- whether a small number less t less p is finite does not turn on the small number -/
theorem fin_sub_sub {x y t p : Nat} (hx : Bd .f32 0 x) (hy : Bd .f32 0 y) (ht : fin .f32 t = true) (hp : fin .f32 p = true) :
    fin .f32 (fop .sub .f32 (fop .sub .f32 x t) p) = fin .f32 (fop .sub .f32 (fop .sub .f32 y t) p) := by
  obtain ⟨s, M, E, hd⟩ := fin_number ht
  obtain ⟨h1, h2, h3, h4⟩ := f32_norm hd
  by_cases hE : 3 ≤ E
  · rw [sub_absorb hx hd (h4 (by omega)) (by omega) (by omega), sub_absorb hy hd (h4 (by omega)) (by omega) (by omega)]
  · have bt : Bd .f32 26 t := ⟨s, M, E, hd, le2_of h1 (by omega)⟩
    have b1 : Bd .f32 27 (fop .sub .f32 x t) := bd_sub fmt32 (bd_mono hx (by decide)) bt (by decide) (by decide)
    have b2 : Bd .f32 27 (fop .sub .f32 y t) := bd_sub fmt32 (bd_mono hy (by decide)) bt (by decide) (by decide)
    obtain ⟨s', M', E', hd'⟩ := fin_number hp
    obtain ⟨g1, g2, g3, g4⟩ := f32_norm hd'
    by_cases hE' : 30 ≤ E'
    · rw [sub_absorb b1 hd' (g4 (by omega)) (by omega) (by omega), sub_absorb b2 hd' (g4 (by omega)) (by omega) (by omega)]
    · have bp : Bd .f32 54 p := ⟨s', M', E', hd', le2_of g1 (by omega)⟩
      rw [bd_fin (bd_sub fmt32 (bd_mono b1 (by decide)) bp (by decide) (by decide)), bd_fin (bd_sub fmt32 (bd_mono b2 (by decide)) bp (by decide) (by decide))]
end Go.Proofs.Ytpmjikchlofebaa
