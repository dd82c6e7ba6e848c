/- Rounding keeps what is below a number of the format below it. No statement is proved here. -/
import Derived.Test.YtpmjikchlofebaaAng
namespace Go.Proofs.Ytpmjikchlofebaa
open Go Go.RowKit

/-- 'm * 2 ^ e' is at most 'n * 2 ^ j' -/
def LeN (m : Nat) (e : Int) (n : Nat) (j : Int) : Prop := m * 2 ^ (e - min e j).toNat ≤ n * 2 ^ (j - min e j).toNat

theorem leN_at {m n : Nat} {e j b : Int} (h : LeN m e n j) (h1 : b ≤ e) (h2 : b ≤ j) : m * 2 ^ (e - b).toNat ≤ n * 2 ^ (j - b).toNat := by
  have := Nat.mul_le_mul_right (2 ^ (min e j - b).toNat) h
  rw [Nat.mul_assoc, ← Nat.pow_add, Nat.mul_assoc, ← Nat.pow_add] at this
  rw [show (e - min e j).toNat + (min e j - b).toNat = (e - b).toNat by omega, show (j - min e j).toNat + (min e j - b).toNat = (j - b).toNat by omega] at this
  exact this
theorem leN_of {m n : Nat} {e j b : Int} (h : m * 2 ^ (e - b).toNat ≤ n * 2 ^ (j - b).toNat) (h1 : b ≤ e) (h2 : b ≤ j) : LeN m e n j := by
  refine Nat.le_of_mul_le_mul_right (c := 2 ^ (min e j - b).toNat) ?_ (Nat.two_pow_pos _)
  rw [Nat.mul_assoc, ← Nat.pow_add, Nat.mul_assoc, ← Nat.pow_add]
  rw [show (e - min e j).toNat + (min e j - b).toNat = (e - b).toNat by omega, show (j - min e j).toNat + (min e j - b).toNat = (j - b).toNat by omega]
  exact h
theorem leN_trans {m n o : Nat} {e j k : Int} (h : LeN m e n j) (h' : LeN n j o k) : LeN m e o k := by
  have hb : min e (min j k) ≤ e ∧ min e (min j k) ≤ j ∧ min e (min j k) ≤ k := ⟨by omega, by omega, by omega⟩
  exact leN_of (Nat.le_trans (leN_at h hb.1 hb.2.1) (leN_at h' hb.2.1 hb.2.2)) hb.1 hb.2.2

/-- the parts of a rung -/
theorem rung_parts {f : Ieee.Format} {p : Nat} {L top : Int} (F : Fmt f p L top) (s : Bool) {r : Nat} (hr : r < f.infRung) :
    ∃ M E, f.read (f.word s r) = .number s M E ∧ L ≤ E ∧ r = (E - L).toNat * 2 ^ p + M ∧ M < 2 * 2 ^ p ∧ (E = L ∨ 2 ^ p ≤ M) := by
  have hsw := f.infRung_lt
  have hsw0 : 0 < f.signWeight := Nat.two_pow_pos _
  have hp0 : 0 < 2 ^ p := Nat.two_pow_pos p
  have hmod : f.word s r % f.signWeight = r := by
    unfold Ieee.Format.word; split
    · rw [Nat.add_mod_left, Nat.mod_eq_of_lt (by omega)]
    · rw [Nat.mod_eq_of_lt (by omega)]
  have hneg : (f.word s r / f.signWeight % 2 == 1) = s := by
    unfold Ieee.Format.word
    cases s
    · simp [Nat.div_eq_of_lt (show r < f.signWeight by omega)]
    · simp only [if_true]
      rw [Nat.add_comm, Nat.add_div_right _ hsw0, Nat.div_eq_of_lt (by omega)]; rfl
  unfold Ieee.Format.read
  simp only [hmod, hneg, F.bin, F.least, if_pos hr]
  by_cases h : r < 2 ^ p
  · rw [if_pos h]
    exact ⟨r, L, rfl, Int.le_refl _, by rw [show (L - L).toNat = 0 by omega]; omega, by omega, .inl rfl⟩
  · rw [if_neg h]
    have h1 := Nat.mod_lt r hp0
    have h2 := Nat.div_add_mod r (2 ^ p)
    have h3 : 1 ≤ r / 2 ^ p := by rw [Nat.le_div_iff_mul_le hp0]; omega
    refine ⟨_, _, rfl, by omega, ?_, by omega, .inr (by omega)⟩
    rw [show (L + ((r / 2 ^ p - 1 : Nat) : Int) - L).toNat = r / 2 ^ p - 1 by omega, Nat.mul_comm]
    have h4 : 2 ^ p * (r / 2 ^ p) = 2 ^ p * (r / 2 ^ p - 1) + 2 ^ p := by
      conv => lhs; rw [show r / 2 ^ p = (r / 2 ^ p - 1) + 1 by omega]
      rw [Nat.mul_add, Nat.mul_one]
    omega

theorem rung_mono {f : Ieee.Format} {p : Nat} {L top : Int} (F : Fmt f p L top) {s t : Bool} {r rc : Nat} (hc : rc < f.infRung) (h : r ≤ rc) {n : Nat} {j : Int} (hn : f.read (f.word t rc) = .number t n j) :
    ∃ M E, f.read (f.word s r) = .number s M E ∧ LeN M E n j := by
  obtain ⟨M, E, h1, h2, h3, h4, h5⟩ := rung_parts F s (Nat.lt_of_le_of_lt h hc)
  obtain ⟨M', E', h1', h2', h3', h4', h5'⟩ := rung_parts F t hc
  rw [hn] at h1'
  simp only [Ieee.Datum.number.injEq, true_and] at h1'
  obtain ⟨rfl, rfl⟩ := h1'
  refine ⟨M, E, h1, ?_⟩
  have hp0 : 0 < 2 ^ p := Nat.two_pow_pos p
  rcases Int.lt_trichotomy E j with hh | hh | hh
  · have hM' : 2 ^ p ≤ n := by rcases h5' with h5' | h5' <;> omega
    refine leN_of (b := E) ?_ (Int.le_refl _) (by omega)
    rw [show (E - E).toNat = 0 by omega, Nat.pow_zero, Nat.mul_one]
    have e1 : 2 ^ (j - E).toNat = 2 * 2 ^ ((j - E).toNat - 1) := by
      conv => lhs; rw [show (j - E).toNat = ((j - E).toNat - 1) + 1 by omega]
      rw [Nat.pow_succ, Nat.mul_comm]
    rw [e1]
    have e2 : 2 * 2 ^ p ≤ n * (2 * 2 ^ ((j - E).toNat - 1)) := by
      have e3 : 1 ≤ 2 ^ ((j - E).toNat - 1) := Nat.one_le_two_pow
      calc 2 * 2 ^ p = 2 ^ p * (2 * 1) := by omega
        _ ≤ n * (2 * 2 ^ ((j - E).toNat - 1)) := Nat.mul_le_mul hM' (Nat.mul_le_mul_left _ e3)
    omega
  · subst hh
    refine leN_of (b := E) ?_ (Int.le_refl _) (Int.le_refl _)
    exact Nat.mul_le_mul_right _ (by omega)
  · exfalso
    have hM : 2 ^ p ≤ M := by rcases h5 with h5 | h5 <;> omega
    have e1 : (E - L).toNat = (j - L).toNat + (E - j).toNat := by omega
    rw [e1, Nat.add_mul] at h3
    have e2 : 1 ≤ (E - j).toNat := by omega
    have e3 := Nat.mul_le_mul_right (2 ^ p) e2
    omega

/-- ████ what is written of a number that is at most a word's is at most that word's -/
theorem write_mono {f : Ieee.Format} {p : Nat} {L top : Int} (F : Fmt f p L top) {s t : Bool} {m n rc : Nat} {e j : Int} (hc : rc < f.infRung) (hn : f.read (f.word t rc) = .number t n j) (h : LeN m e n j) :
    ∃ m' e', f.read (f.write (.number s m e)) = .number s m' e' ∧ LeN m' e' n j := by
  show ∃ m' e', f.read (f.nearest s m e) = .number s m' e' ∧ LeN m' e' n j
  obtain ⟨M', E', h1', h2', h3', h4', h5'⟩ := rung_parts F t hc
  rw [hn] at h1'
  simp only [Ieee.Datum.number.injEq, true_and] at h1'
  obtain ⟨rfl, rfl⟩ := h1'
  unfold Ieee.Format.nearest
  by_cases h0 : m = 0
  · rw [if_pos h0]
    exact rung_mono F hc (Nat.zero_le _) hn
  · rw [if_neg h0]
    refine rung_mono F hc (Nat.le_trans (Nat.min_le_left ..) ?_) hn
    have hm : m < 2 ^ (m.log2 + 1) := Nat.lt_log2_self
    have hm2 : 2 ^ m.log2 ≤ m := Nat.log2_self_le h0
    simp only [F.frac, F.least, F.bin]
    generalize m.log2 = l at hm hm2
    generalize hlast : max (e + (l : Int) - (p : Int)) L = last
    have hp0 : 0 < 2 ^ p := Nat.two_pow_pos p
    rw [h3']
    rcases Int.lt_trichotomy last j with hh | hh | hh
    · have hn2 : 2 ^ p ≤ n := by rcases h5' with h5' | h5' <;> omega
      have hcut : Ieee.Toward.even.cut s (m <<< (e - last).toNat) (last - e).toNat ≤ 2 ^ (p + 1) := by
        refine cut_le s ?_
        rw [Nat.shiftLeft_eq, ← Nat.pow_add]
        calc m * 2 ^ (e - last).toNat ≤ 2 ^ (l + 1) * 2 ^ (e - last).toNat := Nat.mul_le_mul_right _ (Nat.le_of_lt hm)
          _ = 2 ^ (l + 1 + (e - last).toNat) := (Nat.pow_add ..).symm
          _ ≤ _ := Nat.pow_le_pow_right (by decide) (by omega)
      have e0 : 2 ^ (p + 1) = 2 * 2 ^ p := by rw [Nat.pow_succ, Nat.mul_comm]
      have e1 : (j - L).toNat = (last - L).toNat + (j - last).toNat := by omega
      rw [e1, Nat.add_mul]
      have e2 : 1 ≤ (j - last).toNat := by omega
      have e3 := Nat.mul_le_mul_right (2 ^ p) e2
      omega
    · subst hh
      have hcut : Ieee.Toward.even.cut s (m <<< (e - last).toNat) (last - e).toNat ≤ n := by
        refine cut_le s ?_
        rw [Nat.shiftLeft_eq]
        have := leN_at h (b := min e last) (by omega) (by omega)
        by_cases hq : e ≤ last
        · rw [show min e last = e by omega, Int.sub_self] at this
          rw [show (e - last).toNat = 0 by omega]; simpa using this
        · rw [show min e last = last by omega, Int.sub_self] at this
          rw [show (last - e).toNat = 0 by omega]; simpa using this
      omega
    · exfalso
      have hl : last = e + l - p := by omega
      have := leN_at h (b := min e j) (by omega) (by omega)
      have e1 : 2 ^ l * 2 ^ (e - min e j).toNat ≤ m * 2 ^ (e - min e j).toNat := Nat.mul_le_mul_right _ hm2
      have e2 : n * 2 ^ (j - min e j).toNat < 2 ^ (p + 1) * 2 ^ (j - min e j).toNat := by
        refine Nat.mul_lt_mul_of_pos_right ?_ (Nat.two_pow_pos _)
        rw [Nat.pow_succ]; omega
      have e3 : 2 ^ (p + 1) * 2 ^ (j - min e j).toNat ≤ 2 ^ l * 2 ^ (e - min e j).toNat := by
        rw [← Nat.pow_add, ← Nat.pow_add]
        exact Nat.pow_le_pow_right (by decide) (by omega)
      omega

section
variable {P : Program} (w : World)
theorem run_cwide (src dst : TypeId) (a b : Nat) (hs : (P.underlying src).isSome = true) (hd : P.underlying dst = some (.complex .f64)) :
    (convert src dst (.complex .f32 a b)).run P w = .ok (.complex .f64 (wideV a w) (wideV b (w.drewN (wideN a)))) (w.drewN (wideN a + wideN b)) := by
  have key : ∀ (c : Nat) (w : World), (Conv.floatToFloat .f32 c .f64).run P w = .ok (.float .f64 (wideV c w)) (w.drewN (wideN c)) := by
    intro c w
    unfold wideV wideN
    cases hd' : FloatKind.f32.decode c with
    | nan s f =>
      have hn : isn .f32 c = true := isn_iff.2 ⟨s, f, hd'⟩
      simp [Conv.floatToFloat, hd', hn, Question.forced, World.drew_is_drewN]
    | infinity s =>
      have hn : isn .f32 c = false := by unfold isn; rw [hd']; rfl
      simp [Conv.floatToFloat, hd', hn, World.drewN_zero]
    | number s m e =>
      have hn : isn .f32 c = false := by unfold isn; rw [hd']; rfl
      have hf := wide_fin hd'
      simp [Conv.floatToFloat, hd', hn, World.drewN_zero, hf]
  obtain ⟨u, hs'⟩ := Option.isSome_iff_exists.1 hs
  cases u <;> simp [convert, run_underlying hs', run_underlying hd, Conv.complexToComplex, key]
end

end Go.Proofs.Ytpmjikchlofebaa
