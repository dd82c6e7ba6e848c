/- What is rounded keeps its order. No statement is proved here. -/
import Derived.Test.YtpmjikchlofebaaMono
import Derived.Test.YtpmjikchlofebaaSize
namespace Go.Proofs.Ytpmjikchlofebaa
open Go Go.RowKit
theorem cut_spec (neg : Bool) (x d : Nat) : 2 * x ≤ (2 * Ieee.Toward.even.cut neg x d + 1) * 2 ^ d ∧ (2 * Ieee.Toward.even.cut neg x d) * 2 ^ d ≤ 2 * x + 2 ^ d ∧
    (2 * x = (2 * Ieee.Toward.even.cut neg x d + 1) * 2 ^ d → Ieee.Toward.even.cut neg x d % 2 = 0) ∧ ((2 * Ieee.Toward.even.cut neg x d) * 2 ^ d = 2 * x + 2 ^ d → Ieee.Toward.even.cut neg x d % 2 = 0) := by
  unfold Ieee.Toward.cut
  simp only [Nat.one_shiftLeft]
  by_cases hd : d ≤ x.log2 + 2
  · rw [Nat.min_eq_left hd]
    generalize hg : 2 ^ d = gap
    have hp : 0 < gap := by rw [← hg]; exact Nat.two_pow_pos _
    have h1 := Nat.div_add_mod x gap
    have h2 := Nat.mod_lt x hp
    generalize x % gap = r at h1 h2
    generalize x / gap = q at h1
    have e0 : (2 * q + 1) * gap = 2 * (gap * q) + gap := by rw [Nat.add_mul, Nat.one_mul, Nat.mul_assoc, Nat.mul_comm q gap]
    have e1 : (2 * (q + 1) + 1) * gap = 2 * (gap * q) + 3 * gap := by rw [show 2 * (q + 1) + 1 = 2 * q + 3 by omega, Nat.add_mul, Nat.mul_assoc, Nat.mul_comm q gap]
    have e2 : (2 * q) * gap = 2 * (gap * q) := by rw [Nat.mul_assoc, Nat.mul_comm q gap]
    have e3 : (2 * (q + 1)) * gap = 2 * (gap * q) + 2 * gap := by rw [show 2 * (q + 1) = 2 * q + 2 by omega, Nat.add_mul, Nat.mul_assoc, Nat.mul_comm q gap]
    by_cases c1 : gap < 2 * r
    · rw [decide_eq_true c1]
      simp only [Bool.true_or, Bool.toNat_true]
      rw [e1, e3]
      exact ⟨by omega, by omega, by omega, by omega⟩
    · rw [decide_eq_false c1]
      by_cases c2 : gap = 2 * r
      · by_cases c3 : q % 2 = 1
        · have : (gap == 2 * r && q % 2 == 1) = true := by simp [c2, c3]
          rw [this]
          simp only [Bool.or_true, Bool.toNat_true]
          rw [e1, e3]
          exact ⟨by omega, by omega, by omega, by omega⟩
        · have : (gap == 2 * r && q % 2 == 1) = false := by simp [c3]
          rw [this]
          simp only [Bool.or_false, Bool.toNat_false, Nat.add_zero]
          rw [e0, e2]
          exact ⟨by omega, by omega, by omega, by omega⟩
      · have : (gap == 2 * r && q % 2 == 1) = false := by simp [c2]
        rw [this]
        simp only [Bool.or_false, Bool.toNat_false, Nat.add_zero]
        rw [e0, e2]
        exact ⟨by omega, by omega, by omega, by omega⟩
  · rw [Nat.min_eq_right (by omega)]
    have hlt : x < 2 ^ (x.log2 + 1) := Nat.lt_log2_self
    have e1 : 2 ^ (x.log2 + 2) = 2 * 2 ^ (x.log2 + 1) := by rw [Nat.pow_succ, Nat.mul_comm]
    have e4 : 2 ^ (x.log2 + 2) ≤ 2 ^ d := Nat.pow_le_pow_right (by decide) (by omega)
    generalize 2 ^ (x.log2 + 1) = g at hlt e1
    rw [e1] at e4
    rw [e1]
    have h1 : x / (2 * g) = 0 := Nat.div_eq_of_lt (by omega)
    have h2 : x % (2 * g) = x := Nat.mod_eq_of_lt (by omega)
    rw [h1, h2]
    have e2 : decide (2 * g < 2 * x) = false := decide_eq_false (by omega)
    have e3 : (2 * g == 2 * x) = false := by rw [beq_eq_false_iff_ne]; omega
    rw [e2, e3]
    simp
    omega
/-- cutting keeps the order -/
theorem cut_mono (s t : Bool) {x y c d : Nat} (h : x * 2 ^ d ≤ y * 2 ^ c) : Ieee.Toward.even.cut s x c ≤ Ieee.Toward.even.cut t y d := by
  obtain ⟨a1, a2, a3, a4⟩ := cut_spec s x c
  obtain ⟨b1, b2, b3, b4⟩ := cut_spec t y d
  generalize Ieee.Toward.even.cut s x c = u at a1 a2 a3 a4 ⊢
  generalize Ieee.Toward.even.cut t y d = v at b1 b2 b3 b4 ⊢
  apply Nat.le_of_not_lt
  intro hlt
  have hc : 0 < 2 ^ c := Nat.two_pow_pos _
  have hd : 0 < 2 ^ d := Nat.two_pow_pos _
  generalize 2 ^ c = C at *
  generalize 2 ^ d = D at *
  -- (2u - 1) C D ≤ 2 x D ≤ 2 y C ≤ (2v + 1) D C
  have h1 := Nat.mul_le_mul_right D a2
  have h2 := Nat.mul_le_mul_right C b1
  have e1 : 2 * u * C * D = 2 * (u * (C * D)) := by simp only [Nat.mul_assoc]
  have e2 : (2 * x + C) * D = 2 * (x * D) + C * D := by rw [Nat.add_mul, Nat.mul_assoc]
  have e3 : 2 * y * C = 2 * (y * C) := Nat.mul_assoc ..
  have e4 : (2 * v + 1) * D * C = 2 * (v * (C * D)) + C * D := by rw [Nat.mul_assoc, Nat.mul_comm D C, Nat.add_mul, Nat.one_mul, Nat.mul_assoc]
  rw [e1, e2] at h1
  rw [e3, e4] at h2
  have hCD : 0 < C * D := Nat.mul_pos hc hd
  have h3 : (v + 1) * (C * D) ≤ u * (C * D) := Nat.mul_le_mul_right _ hlt
  rw [Nat.add_mul, Nat.one_mul] at h3
  have hu : u = v + 1 := by
    apply Nat.le_antisymm _ hlt
    apply Nat.le_of_not_lt
    intro h4
    have h5 : (v + 1 + 1) * (C * D) ≤ u * (C * D) := Nat.mul_le_mul_right _ h4
    rw [Nat.add_mul, Nat.add_mul, Nat.one_mul] at h5
    omega
  have f1 : 2 * u * C = 2 * x + C := by
    apply Nat.eq_of_mul_eq_mul_right hd
    rw [e1, e2]
    omega
  have f2 : 2 * y = (2 * v + 1) * D := by
    apply Nat.eq_of_mul_eq_mul_right hc
    rw [e3, e4]
    omega
  have g1 := a4 f1
  have g2 := b3 f2
  omega
/-- read with either sign: the same but for the sign -/
theorem read_word_both {f : Ieee.Format} {p : Nat} {L top : Int} (F : Fmt f p L top) {r : Nat} (hr : r ≤ f.infRung) : (∃ M E, ∀ s, f.read (f.word s r) = .number s M E) ∨ ∀ s, f.read (f.word s r) = .infinity s := by
  have hsw := f.infRung_lt
  have hsw0 : 0 < f.signWeight := Nat.two_pow_pos _
  have hmod : ∀ s, f.word s r % f.signWeight = r := by
    intro s
    unfold Ieee.Format.word; split
    · rw [Nat.add_mod_left, Nat.mod_eq_of_lt (by omega)]
    · rw [Nat.mod_eq_of_lt (by omega)]
  have hneg : ∀ s, (f.word s r / f.signWeight % 2 == 1) = s := by
    intro s
    unfold Ieee.Format.word
    cases s
    · simp [Nat.div_eq_of_lt (show r < f.signWeight by omega)]
    · simp only [if_true]
      rw [Nat.add_comm, Nat.add_div_right _ hsw0, Nat.div_eq_of_lt (by omega)]; rfl
  unfold Ieee.Format.read
  simp only [hmod, hneg]
  by_cases h : r < f.binade
  · exact .inl ⟨r, f.leastPlace, fun s => by rw [if_pos h]⟩
  · by_cases h2 : r < f.infRung
    · exact .inl ⟨_, _, fun s => by rw [if_neg h, if_pos h2]⟩
    · refine .inr fun s => ?_
      rw [if_neg h, if_neg h2, if_pos (by omega)]
theorem read_write_both {f : Ieee.Format} {p : Nat} {L top : Int} (F : Fmt f p L top) (m : Nat) (e : Int) : (∃ M E, ∀ s, f.read (f.write (.number s m e)) = .number s M E) ∨ ∀ s, f.read (f.write (.number s m e)) = .infinity s := by
  show (∃ M E, ∀ s, f.read (f.nearest s m e) = .number s M E) ∨ ∀ s, f.read (f.nearest s m e) = .infinity s
  unfold Ieee.Format.nearest
  by_cases h0 : m = 0
  · simp only [h0, if_true]
    exact read_word_both F (Nat.zero_le _)
  · simp only [if_neg h0]
    have hc : ∀ s n d, Ieee.Toward.even.cut s n d = Ieee.Toward.even.cut false n d := fun s n d => by cases s <;> rfl
    simp only [hc]
    exact read_word_both F (Nat.min_le_right ..)
/-- the rung of a number -/
def rgN (f : Ieee.Format) (m : Nat) (e : Int) : Nat :=
  (max (e + m.log2 - f.fractionBits) f.leastPlace - f.leastPlace).toNat * f.binade + Ieee.Toward.even.cut false (m <<< (e - max (e + m.log2 - f.fractionBits) f.leastPlace).toNat) (max (e + m.log2 - f.fractionBits) f.leastPlace - e).toNat
theorem log_le_of_leN {m n : Nat} {e j : Int} (h0 : m ≠ 0) (h : LeN m e n j) : e + (m.log2 : Int) ≤ j + (n.log2 : Int) := by
  unfold LeN at h
  have hn : n ≠ 0 := by
    intro hn
    rw [hn, Nat.zero_mul] at h
    have := Nat.mul_pos (Nat.pos_of_ne_zero h0) (Nat.two_pow_pos (e - min e j).toNat)
    omega
  have h1 := Nat.log2_self_le h0
  have h2 : n < 2 ^ (n.log2 + 1) := Nat.lt_log2_self
  have h3 : 2 ^ (m.log2 + (e - min e j).toNat) < 2 ^ (n.log2 + 1 + (j - min e j).toNat) := by
    rw [Nat.pow_add, Nat.pow_add]
    calc 2 ^ m.log2 * 2 ^ (e - min e j).toNat ≤ m * 2 ^ (e - min e j).toNat := Nat.mul_le_mul_right _ h1
      _ ≤ n * 2 ^ (j - min e j).toNat := h
      _ < 2 ^ (n.log2 + 1) * 2 ^ (j - min e j).toNat := Nat.mul_lt_mul_of_pos_right h2 (Nat.two_pow_pos _)
  have h4 := (Nat.pow_lt_pow_iff_right (by decide)).1 h3
  omega
/-- rungs keep the order -/
theorem rgN_mono {f : Ieee.Format} {p : Nat} {L top : Int} (F : Fmt f p L top) {m n : Nat} {e j : Int} (h0 : m ≠ 0) (h : LeN m e n j) : rgN f m e ≤ rgN f n j := by
  have hlog := log_le_of_leN h0 h
  have hn0 : n ≠ 0 := by
    intro hn
    unfold LeN at h
    rw [hn, Nat.zero_mul] at h
    have := Nat.mul_pos (Nat.pos_of_ne_zero h0) (Nat.two_pow_pos (e - min e j).toNat)
    omega
  unfold rgN
  rw [F.bin, F.frac, F.least]
  have hm : m < 2 ^ (m.log2 + 1) := Nat.lt_log2_self
  have hn2 : 2 ^ n.log2 ≤ n := Nat.log2_self_le hn0
  generalize m.log2 = a at hlog hm
  generalize n.log2 = b at hlog hn2
  generalize hl1 : max (e + (a : Int) - (p : Int)) L = l1
  generalize hl2 : max (j + (b : Int) - (p : Int)) L = l2
  rcases Int.lt_or_eq_of_le (show l1 ≤ l2 by omega) with hh | hh
  · have k1 : Ieee.Toward.even.cut false (m <<< (e - l1).toNat) (l1 - e).toNat ≤ 2 ^ (p + 1) := by
      refine cut_le false ?_
      rw [Nat.shiftLeft_eq, ← Nat.pow_add]
      calc m * 2 ^ (e - l1).toNat ≤ 2 ^ (a + 1) * 2 ^ (e - l1).toNat := Nat.mul_le_mul_right _ (Nat.le_of_lt hm)
        _ = 2 ^ (a + 1 + (e - l1).toNat) := (Nat.pow_add ..).symm
        _ ≤ _ := Nat.pow_le_pow_right (by decide) (by omega)
    have k2 : 2 ^ p ≤ Ieee.Toward.even.cut false (n <<< (j - l2).toNat) (l2 - j).toNat := by
      refine cut_ge false ?_
      rw [Nat.shiftLeft_eq, ← Nat.pow_add]
      calc 2 ^ (p + (l2 - j).toNat) ≤ 2 ^ (b + (j - l2).toNat) := Nat.pow_le_pow_right (by decide) (by omega)
        _ = 2 ^ b * 2 ^ (j - l2).toNat := Nat.pow_add ..
        _ ≤ _ := Nat.mul_le_mul_right _ hn2
    have e1 : (l2 - L).toNat = (l1 - L).toNat + (l2 - l1).toNat := by omega
    have e2 : 1 ≤ (l2 - l1).toNat := by omega
    have e3 := Nat.mul_le_mul_right (2 ^ p) e2
    rw [e1, Nat.add_mul]
    rw [Nat.pow_succ] at k1
    omega
  · subst hh
    refine Nat.add_le_add_left (cut_mono false false ?_) _
    rw [Nat.shiftLeft_eq, Nat.shiftLeft_eq, Nat.mul_assoc, Nat.mul_assoc, ← Nat.pow_add, ← Nat.pow_add]
    have hb := leN_at (b := min (min e j) l1) h (by omega) (by omega)
    have hx : ∃ g : Nat, (e - min (min e j) l1).toNat + g = (e - l1).toNat + (l1 - j).toNat ∧ (j - min (min e j) l1).toNat + g = (j - l1).toNat + (l1 - e).toNat :=
      ⟨((e - l1).toNat + (l1 - j).toNat) - (e - min (min e j) l1).toNat, by omega, by omega⟩
    obtain ⟨g, g1, g2⟩ := hx
    rw [← g1, ← g2, Nat.pow_add, Nat.pow_add, ← Nat.mul_assoc, ← Nat.mul_assoc]
    exact Nat.mul_le_mul_right _ hb
theorem write_rgN (f : Ieee.Format) (s : Bool) {m : Nat} (e : Int) (h0 : m ≠ 0) : f.write (.number s m e) = f.word s (min (rgN f m e) f.infRung) := by
  show f.nearest s m e = _
  unfold Ieee.Format.nearest
  rw [if_neg h0]
  have hc : ∀ s n d, Ieee.Toward.even.cut s n d = Ieee.Toward.even.cut false n d := fun s n d => by cases s <;> rfl
  simp only [hc]
  rfl
theorem inf32 (s : Bool) : FloatKind.f32.format.read (FloatKind.f32.format.word s FloatKind.f32.format.infRung) = .infinity s := by cases s <;> decide +kernel
/-- what is rounded keeps its order -/
theorem geq_write {m n : Nat} {e j : Int} (h0 : m ≠ 0) (h : LeN m e n j) : geq32 (FloatKind.f32.format.write (.number false n j)) (FloatKind.f32.format.write (.number false m e)) = true := by
  have hn0 : n ≠ 0 := by
    intro hn
    unfold LeN at h
    rw [hn, Nat.zero_mul] at h
    have := Nat.mul_pos (Nat.pos_of_ne_zero h0) (Nat.two_pow_pos (e - min e j).toNat)
    omega
  rw [write_rgN _ _ _ h0, write_rgN _ _ _ hn0]
  have hm := rgN_mono fmt32 h0 h
  generalize rgN FloatKind.f32.format m e = a at hm
  generalize rgN FloatKind.f32.format n j = b at hm
  unfold geq32 Ieee.Format.order
  rcases Nat.lt_or_ge b FloatKind.f32.format.infRung with hb | hb
  · rw [Nat.min_eq_left (Nat.le_of_lt hb), Nat.min_eq_left (by omega)]
    obtain ⟨M, E, hr, -⟩ := rung_parts fmt32 false hb
    obtain ⟨M', E', hr', hl⟩ := rung_mono fmt32 (s := false) (t := false) hb hm hr
    rw [hr, hr']
    simp only [Ieee.Datum.order]
    unfold LeN at hl
    have h1 : Ieee.signed false M' (E' - min E E').toNat ≤ Ieee.signed false M (E - min E E').toNat := by
      unfold Ieee.signed
      simp only [Bool.false_eq_true, if_false, Nat.shiftLeft_eq]
      rw [Int.min_comm E E']
      exact_mod_cast hl
    rcases Int.lt_or_eq_of_le h1 with h2 | h2
    · rw [Int.compare_eq_gt.2 h2]; rfl
    · rw [← h2, Int.compare_eq_eq.2 rfl]; rfl
  · rw [Nat.min_eq_right hb, inf32]
    rcases Nat.lt_or_ge a FloatKind.f32.format.infRung with ha | ha
    · rw [Nat.min_eq_left (Nat.le_of_lt ha)]
      obtain ⟨M, E, hr, -⟩ := rung_parts fmt32 false ha
      rw [hr]; rfl
    · rw [Nat.min_eq_right ha, inf32]; rfl
end Go.Proofs.Ytpmjikchlofebaa
