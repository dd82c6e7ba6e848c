/- Numbers that are written as they are: without a sign, and the other way round. No statement is proved here. -/
import Derived.Test.YtpmjikchlofebaaAbs
import Derived.Test.YtpmjikchlofebaaKey
namespace Go.Proofs.Ytpmjikchlofebaa
open Go Go.RowKit
theorem log2_mul (m g : Nat) (h0 : m ≠ 0) : (m * 2 ^ g).log2 = m.log2 + g := by
  have h1 := Nat.log2_self_le h0
  have h2 : m < 2 ^ (m.log2 + 1) := Nat.lt_log2_self
  refine log2_at ?_ ?_
  · rw [Nat.pow_add]; exact Nat.mul_le_mul_right _ h1
  · rw [show m.log2 + g + 1 = (m.log2 + 1) + g by omega, Nat.pow_add]; exact Nat.mul_lt_mul_of_pos_right h2 (Nat.two_pow_pos g)
theorem cut_mul (neg : Bool) (m g : Nat) (h0 : m ≠ 0) : Ieee.Toward.even.cut neg (m * 2 ^ g) g = m := by
  have h := cut_even_lo (neg := neg) (m := m) (r := 0) (g := g) (by have := Nat.two_pow_pos g; omega) (by show g ≤ (m * 2 ^ g).log2 + 2; rw [log2_mul m g h0]; omega)
  simpa using h
/-- a number of the format: its rung -/
def rung32 (m : Nat) (e : Int) : Nat := (e - -149).toNat * 2 ^ 23 + m
theorem rung32_lt {m : Nat} {e : Int} (h24 : m < 2 ^ (23 + 1)) (he : -149 ≤ e) (he2 : e ≤ 104) : rung32 m e < FloatKind.f32.format.infRung := by
  rw [f32_inf]; unfold rung32
  have e3 : (2 : Nat) ^ (23 + 1) = 2 * 2 ^ 23 := by decide
  have : (e - -149).toNat ≤ 253 := by omega
  have := Nat.mul_le_mul_right (2 ^ 23) this
  omega
theorem near32 (neg : Bool) {m g : Nat} {e : Int} (h0 : m ≠ 0) (h24 : m < 2 ^ (23 + 1)) (he : -149 ≤ e) (he2 : e ≤ 104) (hn : -149 < e → 2 ^ 23 ≤ m) :
    FloatKind.f32.format.nearest neg (m * 2 ^ g) (e - g) = FloatKind.f32.format.word neg (rung32 m e) := by
  have hlt := rung32_lt h24 he he2
  have hl1 : m.log2 ≤ 23 := by have := (Nat.log2_lt h0 (k := 24)).2 h24; omega
  have hl2 : -149 < e → m.log2 = 23 := fun h => log2_at (hn h) h24
  have hm0 : m * 2 ^ g ≠ 0 := Nat.mul_ne_zero h0 (by have := Nat.two_pow_pos g; omega)
  unfold Ieee.Format.nearest
  rw [if_neg hm0]
  simp only [f32_frac, f32_least, f32_binade, log2_mul m g h0]
  have hp : max (e - (g : Int) + ((m.log2 + g : Nat) : Int) - ((23 : Nat) : Int)) (-149) = e := by
    by_cases h : -149 < e
    · rw [hl2 h]; omega
    · omega
  rw [hp, show (e - (g : Int) - e).toNat = 0 by omega, show (e - (e - (g : Int))).toNat = g by omega, Nat.shiftLeft_zero, cut_mul neg m g h0]
  rw [Nat.min_eq_left (by unfold rung32 at hlt; omega)]
  rfl
theorem read32 (s : Bool) {m : Nat} {e : Int} (h24 : m < 2 ^ (23 + 1)) (he : -149 ≤ e) (he2 : e ≤ 104) (hn : -149 < e → 2 ^ 23 ≤ m) :
    FloatKind.f32.decode (FloatKind.f32.format.word s (rung32 m e)) = .number s m e := by
  have hlt := rung32_lt h24 he he2
  by_cases h23 : 2 ^ 23 ≤ m
  · exact read_rung fmt32 s he h23 h24 hlt
  · have e1 : e = -149 := by omega
    subst e1
    have hr : rung32 m (-149) = m := by unfold rung32; simp
    rw [hr] at hlt ⊢
    have hsw := FloatKind.f32.format.infRung_lt
    have hsw0 : 0 < FloatKind.f32.format.signWeight := Nat.two_pow_pos _
    have hmod : FloatKind.f32.format.word s m % FloatKind.f32.format.signWeight = m := by
      unfold Ieee.Format.word; split
      · rw [Nat.add_mod_left, Nat.mod_eq_of_lt (by omega)]
      · rw [Nat.mod_eq_of_lt (by omega)]
    have hneg : (FloatKind.f32.format.word s m / FloatKind.f32.format.signWeight % 2 == 1) = s := by
      unfold Ieee.Format.word
      cases s
      · simp [Nat.div_eq_of_lt (show m < FloatKind.f32.format.signWeight by omega)]
      · simp only [if_true]
        rw [Nat.add_comm, Nat.add_div_right _ hsw0, Nat.div_eq_of_lt (by omega)]; rfl
    show FloatKind.f32.format.read _ = _
    unfold Ieee.Format.read
    simp only [hmod, hneg, f32_binade, f32_least]
    rw [if_pos (by omega)]
/-- the number without its sign -/
def abs32 (b : Nat) : Nat := narrow (fabs (wide b))
theorem wide_decode {b : Nat} {s : Bool} {m : Nat} {e : Int} (h : FloatKind.f32.decode b = .number s m e) (h0 : m ≠ 0) :
    FloatKind.f64.decode (wide b) = .number s (m * 2 ^ (52 - m.log2)) (e - ((52 - m.log2 : Nat) : Int)) := by
  obtain ⟨h24, he, he2, hn⟩ := f32_norm h
  have hl1 : m.log2 ≤ 23 := by have := (Nat.log2_lt h0 (k := 24)).2 h24; omega
  have hw : wide b = FloatKind.f64.format.nearest s m e := by
    unfold wide
    rw [if_neg (by unfold isn; rw [h]; simp [Ieee.Datum.isNaN]), h]; rfl
  rw [hw, nearest_exact _ s m e h0 (by rw [f64_least]; omega) (by rw [f64_frac]; omega)]
  simp only [f64_frac, f64_least, f64_binade]
  have hp : max (e + (m.log2 : Int) - ((52 : Nat) : Int)) (-1074) = e - ((52 - m.log2 : Nat) : Int) := by omega
  rw [hp, show (e - (e - ((52 - m.log2 : Nat) : Int))).toNat = 52 - m.log2 by omega, Nat.shiftLeft_eq]
  have b1 : 2 ^ 52 ≤ m * 2 ^ (52 - m.log2) := by
    have := Nat.mul_le_mul_right (2 ^ (52 - m.log2)) (Nat.log2_self_le h0)
    rwa [← Nat.pow_add, show m.log2 + (52 - m.log2) = 52 by omega] at this
  have b2 : m * 2 ^ (52 - m.log2) < 2 ^ (52 + 1) := by
    have := Nat.mul_lt_mul_of_pos_right (Nat.lt_log2_self (n := m)) (Nat.two_pow_pos (52 - m.log2))
    rwa [← Nat.pow_add, show m.log2 + 1 + (52 - m.log2) = 52 + 1 by omega] at this
  have hlt : (e - ((52 - m.log2 : Nat) : Int) - -1074).toNat * 2 ^ 52 + m * 2 ^ (52 - m.log2) < FloatKind.f64.format.infRung := by
    rw [f64_inf]
    have : (e - ((52 - m.log2 : Nat) : Int) - -1074).toNat ≤ 2000 := by omega
    have := Nat.mul_le_mul_right (2 ^ 52) this
    have e3 : (2 : Nat) ^ (52 + 1) = 2 * 2 ^ 52 := by decide
    omega
  rw [Nat.min_eq_left (Nat.le_of_lt hlt)]
  exact read_rung fmt64 s (by omega) b1 b2 hlt
theorem abs_decode {b : Nat} {s : Bool} {m : Nat} {e : Int} (h : FloatKind.f32.decode b = .number s m e) : FloatKind.f32.decode (abs32 b) = .number false m (if m = 0 then -149 else e) ∧ over (fabs (wide b)) = false := by
  obtain ⟨h24, he, he2, hn⟩ := f32_norm h
  by_cases h0 : m = 0
  · subst h0
    have hw : wide b = FloatKind.f64.encode (.number s 0 e) := by
      unfold wide; rw [if_neg (by unfold isn; rw [h]; simp [Ieee.Datum.isNaN]), h]
    have he' : fabs (FloatKind.f64.encode (.number s 0 e)) = 0 := by
      show fabs (FloatKind.f64.format.nearest s 0 e) = 0
      unfold Ieee.Format.nearest
      rw [if_pos rfl]
      cases s <;> decide +kernel
    unfold abs32
    rw [hw, he']
    exact ⟨by rw [if_pos rfl]; decide +kernel, by decide +kernel⟩
  · have hd := wide_decode h h0
    have hf : FloatKind.f64.decode (fabs (wide b)) = .number false (m * 2 ^ (52 - m.log2)) (e - ((52 - m.log2 : Nat) : Int)) := by rw [read_fabs, hd]; rfl
    have hx : FloatKind.f32.encode (.number false (m * 2 ^ (52 - m.log2)) (e - ((52 - m.log2 : Nat) : Int))) = FloatKind.f32.format.word false (rung32 m e) := near32 false h0 h24 he he2 hn
    refine ⟨?_, ?_⟩
    · unfold abs32
      rw [narrow_number hf, hx, read32 false h24 he he2 hn, if_neg h0]
    · unfold over
      rw [hf]
      simp only []
      rw [hx, read32 false h24 he he2 hn]; rfl
theorem abs_fin {b : Nat} (h : fin .f32 b = true) : fin .f32 (abs32 b) = true ∧ key (abs32 b) = ((key b).natAbs : Int) ∧ over (fabs (wide b)) = false ∧ isn .f64 (fabs (wide b)) = false := by
  cases hd : FloatKind.f32.decode b with
  | nan s f => unfold fin at h; rw [hd] at h; cases h
  | infinity s => unfold fin at h; rw [hd] at h; cases h
  | number s m e =>
    obtain ⟨h1, h2⟩ := abs_decode hd
    refine ⟨by unfold fin; rw [h1], ?_, h2, by rw [isn_fabs, isn_wide]; exact not_nan_of_fin h⟩
    have hs : ∀ k, ((Ieee.signed s m k).natAbs : Int) = Ieee.signed false m k := fun k => by
      unfold Ieee.signed
      cases s
      · simp only [Bool.false_eq_true, if_false]; rfl
      · simp only [if_true, Bool.false_eq_true, if_false]; rw [Int.natAbs_neg]; rfl
    unfold key
    rw [h1, hd]
    simp only []
    rw [hs]
    by_cases h0 : m = 0
    · subst h0; unfold Ieee.signed; simp
    · rw [if_neg h0]
end Go.Proofs.Ytpmjikchlofebaa
