/- How great the model's floats can be: bounds by powers of two, through rounding. No statement is proved here. -/
import Derived.Test.YtpmjikchlofebaaFloat
namespace Go.Proofs.Ytpmjikchlofebaa
open Go Go.RowKit

/-- 'm * 2 ^ e' is at most '2 ^ k'. -/
def Le2 (m : Nat) (e k : Int) : Prop := m ≤ 2 ^ (k - e).toNat ∧ (k < e → m = 0)

theorem le2_zero (e k : Int) : Le2 0 e k := ⟨Nat.zero_le _, fun _ => rfl⟩
theorem le2_mono {m : Nat} {e k k' : Int} (h : Le2 m e k) (hk : k ≤ k') : Le2 m e k' :=
  ⟨Nat.le_trans h.1 (Nat.pow_le_pow_right (by decide) (by omega)), fun h' => h.2 (by omega)⟩
theorem le2_le {m m' : Nat} {e k : Int} (h : Le2 m e k) (hm : m' ≤ m) : Le2 m' e k :=
  ⟨Nat.le_trans hm h.1, fun h' => by have := h.2 h'; omega⟩
/-- the same number by other digits -/
theorem le2_shift {m : Nat} {e k : Int} (t : Nat) : Le2 (m * 2 ^ t) (e - t) k ↔ Le2 m e k := by
  unfold Le2
  have hp : 0 < 2 ^ t := Nat.two_pow_pos t
  constructor
  · rintro ⟨h1, h2⟩
    by_cases hk : k < e
    · have h0 : m = 0 := by
        by_cases hk' : k < e - t
        · have := h2 hk'
          rcases Nat.mul_eq_zero.1 this with h | h
          · exact h
          · omega
        · have e1 : 2 ^ (k - (e - (t : Int))).toNat < 2 ^ t := Nat.pow_lt_pow_right (by decide) (by omega)
          rcases Nat.eq_zero_or_pos m with h | h
          · exact h
          · exact absurd (Nat.lt_of_le_of_lt (Nat.le_trans (Nat.le_mul_of_pos_left (2 ^ t) h) h1) e1) (Nat.lt_irrefl _)
      exact ⟨by rw [h0]; exact Nat.zero_le _, fun _ => h0⟩
    · refine ⟨?_, fun h => absurd h hk⟩
      have e1 : 2 ^ (k - (e - (t : Int))).toNat = 2 ^ (k - e).toNat * 2 ^ t := by
        rw [← Nat.pow_add]; exact congrArg (fun x => 2 ^ x) (by omega)
      rw [e1] at h1
      exact Nat.le_of_mul_le_mul_right h1 hp
  · rintro ⟨h1, h2⟩
    by_cases hk : k < e
    · rw [h2 hk]; simp
    · refine ⟨?_, fun h => by omega⟩
      have e1 : 2 ^ (k - (e - (t : Int))).toNat = 2 ^ (k - e).toNat * 2 ^ t := by
        rw [← Nat.pow_add]; exact congrArg (fun x => 2 ^ x) (by omega)
      rw [e1]
      exact Nat.mul_le_mul_right _ h1

theorem log2_le_of_le {m n : Nat} (h : m ≤ 2 ^ n) (h0 : m ≠ 0) : m.log2 ≤ n := by
  rcases Nat.lt_or_ge m (2 ^ n) with h' | h'
  · have := (Nat.log2_lt h0 (k := n)).2 h'
    omega
  · have : m = 2 ^ n := by omega
    rw [this, Nat.log2_two_pow]; exact Nat.le_refl _

/-! ## the round -/

theorem cut_le {n N drop : Nat} (neg : Bool) (h : n ≤ N * 2 ^ drop) : Ieee.Toward.even.cut neg n drop ≤ N := by
  unfold Ieee.Toward.cut
  simp only [Nat.one_shiftLeft]
  by_cases hd : drop ≤ n.log2 + 2
  · rw [Nat.min_eq_left hd]
    generalize hg : 2 ^ drop = gap
    rw [hg] at h
    have hp : 0 < gap := by rw [← hg]; exact Nat.two_pow_pos _
    have h1 := Nat.div_add_mod n gap
    have h2 := Nat.mod_lt n hp
    by_cases hr : n % gap = 0
    · have hq : n / gap ≤ N := Nat.div_le_of_le_mul (by rw [Nat.mul_comm]; exact h)
      rw [hr]
      have : (decide (gap < 2 * 0) || gap == 2 * 0 && n / gap % 2 == 1) = false := by
        have e1 : decide (gap < 2 * 0) = false := by simp
        have e2 : (gap == 2 * 0) = false := by rw [beq_eq_false_iff_ne]; omega
        rw [e1, e2]; rfl
      rw [this]; exact hq
    · have hq : n / gap < N := by
        rw [Nat.div_lt_iff_lt_mul hp]
        rcases Nat.lt_or_ge n (N * gap) with h' | h'
        · exact h'
        · have e : n = N * gap := by omega
          rw [e, Nat.mul_mod_left] at hr
          exact absurd rfl hr
      have : ∀ b : Bool, b.toNat ≤ 1 := by intro b; cases b <;> decide
      have := this (decide (gap < 2 * (n % gap)) || gap == 2 * (n % gap) && n / gap % 2 == 1)
      omega
  · rw [Nat.min_eq_right (by omega)]
    have hlt : n < 2 ^ (n.log2 + 1) := Nat.lt_log2_self
    have e1 : 2 ^ (n.log2 + 2) = 2 * 2 ^ (n.log2 + 1) := by rw [Nat.pow_succ, Nat.mul_comm]
    generalize 2 ^ (n.log2 + 1) = g at hlt e1
    rw [e1]
    have h1 : n / (2 * g) = 0 := Nat.div_eq_of_lt (by omega)
    have h2 : n % (2 * g) = n := Nat.mod_eq_of_lt (by omega)
    rw [h1, h2]
    have e2 : decide (2 * g < 2 * n) = false := decide_eq_false (by omega)
    have e3 : (2 * g == 2 * n) = false := by rw [beq_eq_false_iff_ne]; omega
    rw [e2, e3]; simp

/-- a format's greatest numbers lie this high -/
structure Fmt (f : Ieee.Format) (p : Nat) (L top : Int) : Prop where
  bin : f.binade = 2 ^ p
  frac : f.fractionBits = p
  least : f.leastPlace = L
  inf : ∀ r : Nat, r ≤ (top - L - p + 1).toNat * 2 ^ p → r < f.infRung

theorem nearest_rung (neg : Bool) {f : Ieee.Format} {p : Nat} {L top : Int} (F : Fmt f p L top) {m : Nat} {e k : Int} (h : Le2 m e k) (h0 : m ≠ 0) (hlo : L + p + 1 ≤ k) :
    (max (e + m.log2 - f.fractionBits) f.leastPlace - f.leastPlace).toNat * f.binade + Ieee.Toward.even.cut neg (m <<< (e - max (e + m.log2 - f.fractionBits) f.leastPlace).toNat) (max (e + m.log2 - f.fractionBits) f.leastPlace - e).toNat ≤ (k - L - p + 1).toNat * 2 ^ p := by
  rw [F.bin, F.frac, F.least]
  have hke : e ≤ k := by
    rcases Int.lt_or_le k e with h' | h'
    · exact absurd (h.2 h') h0
    · exact h'
  have hl := log2_le_of_le h.1 h0
  have hm : m < 2 ^ (m.log2 + 1) := Nat.lt_log2_self
  have hm2 : 2 ^ m.log2 ≤ m := Nat.log2_self_le h0
  generalize m.log2 = l at hl hm hm2
  by_cases hc : e + l ≤ k - 1
  · generalize hlast : max (e + (l : Int) - (p : Int)) L = last
    have hk1 : last ≤ k - 1 - p := by omega
    have hcut : Ieee.Toward.even.cut neg (m <<< (e - last).toNat) (last - e).toNat ≤ 2 ^ (p + 1) := by
      refine cut_le neg ?_
      rw [Nat.shiftLeft_eq, ← Nat.pow_add]
      calc m * 2 ^ (e - last).toNat ≤ 2 ^ (l + 1) * 2 ^ (e - last).toNat := Nat.mul_le_mul_right _ (Nat.le_of_lt hm)
        _ = 2 ^ (l + 1 + (e - last).toNat) := (Nat.pow_add ..).symm
        _ ≤ _ := Nat.pow_le_pow_right (by decide) (by omega)
    have e1 : (k - L - p + 1).toNat = (last - L).toNat + (k - L - p + 1 - (last - L)).toNat := by omega
    have e2 : 2 ≤ (k - L - p + 1 - (last - L)).toNat := by omega
    rw [e1, Nat.add_mul]
    have e3 : 2 ^ (p + 1) = 2 * 2 ^ p := by rw [Nat.pow_succ, Nat.mul_comm]
    have e4 := Nat.mul_le_mul_right (2 ^ p) e2
    omega
  · have hek : e + l = k := by omega
    have hm3 : m = 2 ^ l := by
      have e1 : (k - e).toNat = l := by omega
      have := h.1
      rw [e1] at this
      omega
    generalize hlast : max (e + (l : Int) - (p : Int)) L = last
    have hk1 : last = k - p := by omega
    have hcut : Ieee.Toward.even.cut neg (m <<< (e - last).toNat) (last - e).toNat ≤ 2 ^ p := by
      refine cut_le neg ?_
      rw [Nat.shiftLeft_eq, ← Nat.pow_add, hm3, ← Nat.pow_add]
      exact Nat.pow_le_pow_right (by decide) (by omega)
    have e1 : (k - L - p + 1).toNat = (last - L).toNat + 1 := by omega
    rw [e1, Nat.add_mul]
    omega

theorem read_word_le {f : Ieee.Format} {p : Nat} {L top : Int} (F : Fmt f p L top) (s : Bool) {r : Nat} {k : Int} (hr : r ≤ (k - L - p + 1).toNat * 2 ^ p) (hlo : L + p + 1 ≤ k) (hhi : k ≤ top) :
    ∃ m e, f.read (f.word s r) = .number s m e ∧ Le2 m e k := by
  have hinf : r < f.infRung := F.inf r (Nat.le_trans hr (Nat.mul_le_mul_right _ (by omega)))
  have hs := f.infRung_lt
  have hsw : 0 < f.signWeight := Nat.two_pow_pos _
  have hmod : f.word s r % f.signWeight = r := by
    unfold Ieee.Format.word; split
    · rw [Nat.add_mod_left, Nat.mod_eq_of_lt (by omega)]
    · rw [Nat.mod_eq_of_lt (by omega)]
  have hneg : (f.word s r / f.signWeight % 2 == 1) = s := by
    unfold Ieee.Format.word
    cases s
    · simp [Nat.div_eq_of_lt (show r < f.signWeight by omega)]
    · simp only [if_true]
      rw [Nat.add_comm, Nat.add_div_right _ hsw, Nat.div_eq_of_lt (by omega)]; rfl
  have hp : 0 < 2 ^ p := Nat.two_pow_pos p
  unfold Ieee.Format.read
  simp only [hmod, hneg, F.bin, F.least]
  by_cases h1 : r < 2 ^ p
  · rw [if_pos h1]
    exact ⟨r, L, rfl, Nat.le_trans (Nat.le_of_lt h1) (Nat.pow_le_pow_right (by decide) (by omega)), fun h => by omega⟩
  · rw [if_neg h1, if_pos hinf]
    refine ⟨_, _, rfl, ?_⟩
    have hq : r / 2 ^ p ≤ (k - L - p + 1).toNat := by
      rw [← Nat.lt_add_one_iff, Nat.div_lt_iff_lt_mul hp, Nat.add_mul]; omega
    have hq1 : 1 ≤ r / 2 ^ p := by rw [Nat.le_div_iff_mul_le hp]; omega
    by_cases h2 : r / 2 ^ p = (k - L - p + 1).toNat
    · have h3 : r % 2 ^ p = 0 := by
        have := Nat.div_add_mod r (2 ^ p)
        rw [h2, Nat.mul_comm] at this
        omega
      rw [h3, Nat.add_zero]
      refine ⟨Nat.pow_le_pow_right (by decide) (by omega), fun h => by omega⟩
    · have h3 := Nat.mod_lt r hp
      refine ⟨Nat.le_trans (m := 2 ^ (p + 1)) ?_ (Nat.pow_le_pow_right (by decide) (by omega)), fun h => by omega⟩
      rw [Nat.pow_succ]; omega

/-- ████ what is written of a number that is at most '2 ^ k' is at most '2 ^ k' -/
theorem write_le {f : Ieee.Format} {p : Nat} {L top : Int} (F : Fmt f p L top) (s : Bool) {m : Nat} {e k : Int} (h : Le2 m e k) (hlo : L + p + 1 ≤ k) (hhi : k ≤ top) :
    ∃ m' e', f.read (f.write (.number s m e)) = .number s m' e' ∧ Le2 m' e' k := by
  show ∃ m' e', f.read (f.nearest s m e) = .number s m' e' ∧ Le2 m' e' k
  unfold Ieee.Format.nearest
  by_cases h0 : m = 0
  · rw [if_pos h0]
    exact read_word_le F s (Nat.zero_le _) hlo hhi
  · rw [if_neg h0]
    exact read_word_le F s (Nat.le_trans (Nat.min_le_left ..) (nearest_rung s F h h0 hlo)) hlo hhi

theorem fmt64 : Fmt FloatKind.f64.format 52 (-1074) 1023 where
  bin := f64_binade
  frac := rfl
  least := f64_least
  inf := fun r hr => by
    rw [f64_inf]
    have e : ((1023 : Int) - -1074 - (52 : Nat) + 1).toNat = 2046 := by decide
    rw [e] at hr
    exact Nat.lt_of_le_of_lt hr (by decide)
theorem fmt32 : Fmt FloatKind.f32.format 23 (-149) 127 where
  bin := f32_binade
  frac := rfl
  least := f32_least
  inf := fun r hr => by
    rw [f32_inf]
    have e : ((127 : Int) - -149 - (23 : Nat) + 1).toNat = 254 := by decide
    rw [e] at hr
    exact Nat.lt_of_le_of_lt hr (by decide)

/-- the number of a word is at most '2 ^ j' -/
def Bd (k : FloatKind) (j : Int) (b : Nat) : Prop := ∃ s m e, k.decode b = .number s m e ∧ Le2 m e j

theorem bd_mono {k : FloatKind} {j j' : Int} {b : Nat} (h : Bd k j b) (hj : j ≤ j') : Bd k j' b :=
  let ⟨s, m, e, hd, hl⟩ := h
  ⟨s, m, e, hd, le2_mono hl hj⟩

theorem bd_not_nan {k : FloatKind} {j : Int} {b : Nat} (h : Bd k j b) : isn k b = false := by
  obtain ⟨s, m, e, hd, -⟩ := h
  unfold isn; rw [hd]; rfl
theorem bd_canon {k : FloatKind} {j : Int} {b : Nat} (h : Bd k j b) : canon k b = b := canon_of_not (bd_not_nan h)
theorem bd_fin {k : FloatKind} {j : Int} {b : Nat} (h : Bd k j b) : fin k b = true := by
  obtain ⟨s, m, e, hd, -⟩ := h
  unfold fin; rw [hd]

theorem bd_write {k : FloatKind} {p : Nat} {L top : Int} (F : Fmt k.format p L top) {s : Bool} {m : Nat} {e j : Int} (h : Le2 m e j) (hlo : L + p + 1 ≤ j) (hhi : j ≤ top) : Bd k j (k.encode (.number s m e)) :=
  let ⟨m', e', h1, h2⟩ := write_le F s h hlo hhi
  ⟨s, m', e', h1, h2⟩

theorem le2_mul {m n : Nat} {i j a c : Int} (h : Le2 m i a) (h' : Le2 n j c) : Le2 (m * n) (i + j) (a + c) := by
  by_cases h0 : m = 0
  · rw [h0, Nat.zero_mul]; exact le2_zero _ _
  by_cases h0' : n = 0
  · rw [h0', Nat.mul_zero]; exact le2_zero _ _
  have h1 : i ≤ a := by
    rcases Int.lt_or_le a i with hh | hh
    · exact absurd (h.2 hh) h0
    · exact hh
  have h2 : j ≤ c := by
    rcases Int.lt_or_le c j with hh | hh
    · exact absurd (h'.2 hh) h0'
    · exact hh
  refine ⟨?_, fun hh => by omega⟩
  have e : 2 ^ (a + c - (i + j)).toNat = 2 ^ (a - i).toNat * 2 ^ (c - j).toNat := by
    rw [← Nat.pow_add]; exact congrArg (fun x => 2 ^ x) (by omega)
  rw [e]
  exact Nat.mul_le_mul h.1 h'.1

theorem le2_down {m : Nat} {e k base : Int} (h : Le2 m e k) (hb : base ≤ e) : Le2 (m <<< (e - base).toNat) base k := by
  have := (le2_shift (m := m) (e := e) (k := k) (e - base).toNat).2 h
  rw [Nat.shiftLeft_eq]
  rw [show e - (((e - base).toNat : Nat) : Int) = base by omega] at this
  exact this

theorem le2_add {m n : Nat} {base k : Int} (h : Le2 m base k) (h' : Le2 n base k) {t : Nat} (ht : t ≤ m + n) : Le2 t base (k + 1) := by
  by_cases hk : k < base
  · have e1 := h.2 hk
    have e2 := h'.2 hk
    have : t = 0 := by omega
    rw [this]; exact le2_zero _ _
  · refine ⟨?_, fun hh => by omega⟩
    have e : 2 ^ (k + 1 - base).toNat = 2 ^ (k - base).toNat + 2 ^ (k - base).toNat := by
      rw [show (k + 1 - base).toNat = (k - base).toNat + 1 by omega, Nat.pow_succ]; omega
    rw [e]
    exact Nat.le_trans ht (Nat.add_le_add h.1 h'.1)

theorem abs_signed (s t : Bool) (m n i j : Nat) : (Ieee.signed s m i + Ieee.signed t n j).natAbs ≤ (m <<< i) + (n <<< j) := by
  unfold Ieee.signed
  generalize m <<< i = x
  generalize n <<< j = y
  split <;> split <;> omega

theorem sum_le {d d' r : Ieee.Datum} {s t : Bool} {m n : Nat} {i j k : Int} (h1 : d = .number s m i) (h2 : d' = .number t n j) (hm : Le2 m i k) (hn : Le2 n j k) (h : d.sum d' = some r) :
    ∃ s' m' e', r = .number s' m' e' ∧ Le2 m' e' (k + 1) := by
  subst h1; subst h2
  simp only [Ieee.Datum.sum, Option.some.injEq] at h
  subst h
  exact ⟨_, _, _, rfl, le2_add (le2_down hm (Int.min_le_left ..)) (le2_down hn (Int.min_le_right ..)) (abs_signed ..)⟩

section
variable {k : FloatKind} {p : Nat} {L top : Int} (F : Fmt k.format p L top)
include F
theorem bd_mul {a c : Int} {x y : Nat} (hx : Bd k a x) (hy : Bd k c y) (hlo : L + p + 1 ≤ a + c) (hhi : a + c ≤ top) : Bd k (a + c) (fop .mul k x y) := by
  obtain ⟨s, m, i, hd, hl⟩ := hx
  obtain ⟨t, n, j, hd', hl'⟩ := hy
  have hb := bd_write F (s := s ^^ t) (le2_mul hl hl') hlo hhi
  have e : floatBits .mul k x y = some (k.encode (.number (s ^^ t) (m * n) (i + j))) := by
    unfold floatBits Ieee.Format.mul
    have d1 : k.format.read x = .number s m i := hd
    have d2 : k.format.read y = .number t n j := hd'
    rw [d1, d2]; rfl
  unfold fop
  rw [e, Option.getD_some, bd_canon hb]; exact hb
theorem bd_add {a : Int} {x y : Nat} (hx : Bd k a x) (hy : Bd k a y) (hlo : L + p ≤ a) (hhi : a + 1 ≤ top) : Bd k (a + 1) (fop .add k x y) := by
  obtain ⟨s, m, i, hd, hl⟩ := hx
  obtain ⟨t, n, j, hd', hl'⟩ := hy
  have d1 : k.format.read x = .number s m i := hd
  have d2 : k.format.read y = .number t n j := hd'
  obtain ⟨s', m', e', hr, hle⟩ := sum_le (d := .number s m i) (d' := .number t n j) rfl rfl hl hl' rfl
  have hb := bd_write F (s := s') hle (by omega) hhi
  have e : floatBits .add k x y = some (k.encode (.number s' m' e')) := by
    unfold floatBits Ieee.Format.add
    rw [d1, d2]
    have := congrArg (fun d => some (k.format.write d)) hr
    exact this
  unfold fop
  rw [e, Option.getD_some, bd_canon hb]; exact hb
theorem bd_sub {a : Int} {x y : Nat} (hx : Bd k a x) (hy : Bd k a y) (hlo : L + p ≤ a) (hhi : a + 1 ≤ top) : Bd k (a + 1) (fop .sub k x y) := by
  obtain ⟨s, m, i, hd, hl⟩ := hx
  obtain ⟨t, n, j, hd', hl'⟩ := hy
  have d1 : k.format.read x = .number s m i := hd
  have d2 : k.format.read y = .number t n j := hd'
  obtain ⟨s', m', e', hr, hle⟩ := sum_le (d := .number s m i) (d' := .number (!t) n j) rfl rfl hl hl' rfl
  have hb := bd_write F (s := s') hle (by omega) hhi
  have e : floatBits .sub k x y = some (k.encode (.number s' m' e')) := by
    unfold floatBits Ieee.Format.sub
    rw [d1, d2]
    have := congrArg (fun d => some (k.format.write d)) hr
    exact this
  unfold fop
  rw [e, Option.getD_some, bd_canon hb]; exact hb
end

/-- 'm * 2 ^ e' is at least '2 ^ k'. -/
def Ge2 (m : Nat) (e k : Int) : Prop := 2 ^ (k - e).toNat ≤ m * 2 ^ (e - k).toNat ∧ m ≠ 0
/-- the number of a word is at least '2 ^ j', or at most '-2 ^ j' -/
def Bg (k : FloatKind) (j : Int) (b : Nat) : Prop := ∃ s m e, k.decode b = .number s m e ∧ Ge2 m e j

/-- a quotient to 'more' digits, with its mark for what is left over -/
theorem quo_le {m n more : Nat} {i j a c : Int} (hm : Le2 m i a) (hn : Ge2 n j c) (hmore : i - j - more - 1 ≤ a - c) :
    Le2 (2 * (m <<< more / n) + (m <<< more % n != 0).toNat) (i - j - more - 1) (a - c) := by
  obtain ⟨hn, hn0⟩ := hn
  refine ⟨?_, fun h => by omega⟩
  have hp : 0 < n := by omega
  rw [Nat.shiftLeft_eq]
  by_cases h0 : m = 0
  · subst h0; simp
  have hia : i ≤ a := by
    rcases Int.lt_or_le a i with hh | hh
    · exact absurd (hm.2 hh) h0
    · exact hh
  -- the quotient is at most 2 ^ t
  generalize ht : (a - c - (i - j - (more : Int) - 1)).toNat = T
  have hT : 1 ≤ T ∨ T = 0 := by omega
  have hkey : m * 2 ^ more * 2 ≤ n * 2 ^ T := by
    have e1 : m * 2 ^ more * 2 ≤ 2 ^ (a - i).toNat * 2 ^ more * 2 := Nat.mul_le_mul_right _ (Nat.mul_le_mul_right _ hm.1)
    have e2 : 2 ^ (a - i).toNat * 2 ^ more * 2 = 2 ^ ((a - i).toNat + more + 1) := by rw [Nat.pow_succ, Nat.pow_add]
    by_cases hjc : j ≤ c
    · have e3 : 2 ^ (c - j).toNat ≤ n := by
        rw [show (j - c).toNat = 0 by omega] at hn; simpa using hn
      calc m * 2 ^ more * 2 ≤ 2 ^ ((a - i).toNat + more + 1) := by rw [← e2]; exact e1
        _ = 2 ^ (c - j).toNat * 2 ^ T := by rw [← Nat.pow_add]; exact congrArg (fun x => 2 ^ x) (by omega)
        _ ≤ n * 2 ^ T := Nat.mul_le_mul_right _ e3
    · calc m * 2 ^ more * 2 ≤ 2 ^ ((a - i).toNat + more + 1) := by rw [← e2]; exact e1
        _ ≤ 2 ^ T := Nat.pow_le_pow_right (by decide) (by omega)
        _ ≤ n * 2 ^ T := Nat.le_mul_of_pos_left _ hp
  generalize hD : m * 2 ^ more = D at hkey
  have hdm := Nat.div_add_mod D n
  have hlt := Nat.mod_lt D hp
  generalize D / n = q at hdm ⊢
  by_cases hr : D % n = 0
  · rw [hr]
    have hz : ((0 : Nat) != 0).toNat = 0 := rfl
    rw [hz, Nat.add_zero]
    rw [hr, Nat.add_zero] at hdm
    have : n * (2 * q) ≤ n * 2 ^ T := by rw [Nat.mul_left_comm, hdm]; omega
    exact Nat.le_of_mul_le_mul_left this hp
  · have hz : (D % n != 0).toNat = 1 := by
      have : (D % n != 0) = true := by simpa using hr
      rw [this]; rfl
    rw [hz]
    have : n * (2 * q) < n * 2 ^ T := by rw [Nat.mul_left_comm]; omega
    have := Nat.lt_of_mul_lt_mul_left this
    omega

section
variable {k : FloatKind} {p : Nat} {L top : Int} (F : Fmt k.format p L top)
include F
theorem bd_quo {a c : Int} {x y : Nat} (hx : Bd k a x) (hy : Bg k c y) (hlo : L + p + 1 ≤ a - c) (hhi : a - c ≤ top) : Bd k (a - c) (fop .quo k x y) := by
  obtain ⟨s, m, i, hd, hl⟩ := hx
  obtain ⟨t, n, j, hd', hl'⟩ := hy
  have d1 : k.format.read x = .number s m i := hd
  have d2 : k.format.read y = .number t n j := hd'
  have e : floatBits .quo k x y = some (k.encode (.number (s ^^ t) (2 * (m <<< (k.format.fractionBits + 2 + n.log2 - m.log2) / n) + (m <<< (k.format.fractionBits + 2 + n.log2 - m.log2) % n != 0).toNat) (i - j - ((k.format.fractionBits + 2 + n.log2 - m.log2 : Nat) : Int) - 1))) := by
    unfold floatBits Ieee.Format.div
    rw [d1, d2]
    simp only [Ieee.Datum.quotient, if_neg hl'.2]
    rfl
  generalize hmore : k.format.fractionBits + 2 + n.log2 - m.log2 = more at e
  have hle : Le2 (2 * (m <<< more / n) + (m <<< more % n != 0).toNat) (i - j - more - 1) (a - c) := by
    by_cases h0 : m = 0
    · subst h0; simp [le2_zero]
    · refine quo_le hl hl' ?_
      have hf : k.format.fractionBits = p := F.frac
      have hia : i ≤ a := by
        rcases Int.lt_or_le a i with hh | hh
        · exact absurd (hl.2 hh) h0
        · exact hh
      have hlm := log2_le_of_le hl.1 h0
      have hn2 : n < 2 ^ (n.log2 + 1) := Nat.lt_log2_self
      have hcj : c ≤ j + n.log2 + 1 := by
        rcases Int.lt_or_le (j + n.log2 + 1) c with hh | hh
        · exfalso
          have h1 := hl'.1
          rw [show (j - c).toNat = 0 by omega, Nat.pow_zero, Nat.mul_one] at h1
          have h2 : 2 ^ (n.log2 + 1) ≤ 2 ^ (c - j).toNat := Nat.pow_le_pow_right (by decide) (by omega)
          omega
        · exact hh
      omega
  have hb := bd_write F (s := s ^^ t) hle hlo hhi
  unfold fop
  rw [e, Option.getD_some, bd_canon hb]; exact hb
end

/-! ## square roots -/

theorem rootFrom_le (n : Nat) : ∀ todo root, root * root ≤ n → Ieee.Datum.rootFrom n todo root * Ieee.Datum.rootFrom n todo root ≤ n
  | 0, root, h => h
  | todo + 1, root, h => by
    unfold Ieee.Datum.rootFrom
    by_cases hc : (root + 1 <<< todo) * (root + 1 <<< todo) ≤ n
    · simp only [if_pos hc]; exact rootFrom_le n todo _ hc
    · simp only [if_neg hc]; exact rootFrom_le n todo _ h

theorem root_le {digits m : Nat} {i k : Int} {r : Ieee.Datum} (h : (Ieee.Datum.number false m i).root digits = some r) (hl : Le2 m i (2 * k)) :
    ∃ m' e', r = .number false m' e' ∧ Le2 m' e' k := by
  unfold Ieee.Datum.root at h
  simp only [Bool.false_eq_true, if_false] at h
  split at h
  · rename_i h0
    cases h
    exact ⟨m, i, rfl, by rw [h0]; exact le2_zero _ _⟩
  · rename_i h0
    simp only [Option.some.injEq] at h
    subst h
    refine ⟨_, _, rfl, ?_⟩
    generalize hmore : (2 * digits - m.log2 + ((i - ((2 * digits - m.log2 : Nat) : Int)) % 2).toNat) = more
    have hE : ∃ E : Int, i - (more : Int) = 2 * E := ⟨(i - more) / 2, by omega⟩
    obtain ⟨E, hE⟩ := hE
    rw [show (i - (more : Int)) / 2 = E by omega]
    generalize hn : m <<< more = n
    generalize hw : Ieee.Datum.rootFrom n (n.log2 / 2 + 1) 0 = w
    have hw2 : w * w ≤ n := by rw [← hw]; exact rootFrom_le n _ 0 (Nat.zero_le _)
    have hle : Le2 n (2 * E) (2 * k) := by
      have := (le2_shift (m := m) (e := i) (k := 2 * k) more).2 hl
      rw [← hn, Nat.shiftLeft_eq, ← hE]; exact this
    have hn0 : n ≠ 0 := by
      rw [← hn, Nat.shiftLeft_eq]
      intro hz
      rcases Nat.mul_eq_zero.1 hz with hz | hz
      · exact h0 hz
      · have := Nat.two_pow_pos more; omega
    have hEk : 2 * E ≤ 2 * k := by
      rcases Int.lt_or_le (2 * k) (2 * E) with hh | hh
      · exact absurd (hle.2 hh) hn0
      · exact hh
    have hsq : 2 ^ (2 * k - 2 * E).toNat = 2 ^ (k - E).toNat * 2 ^ (k - E).toNat := by
      rw [← Nat.pow_add]; exact congrArg (fun x => 2 ^ x) (by omega)
    have hn2 := hle.1
    rw [hsq] at hn2
    have e1 : 2 ^ (k - (E - 1)).toNat = 2 * 2 ^ (k - E).toNat := by
      rw [show (k - (E - 1)).toNat = (k - E).toNat + 1 by omega, Nat.pow_succ, Nat.mul_comm]
    refine ⟨?_, fun hh => by omega⟩
    rw [e1]
    generalize 2 ^ (k - E).toNat = B at hn2
    by_cases hx : w * w = n
    · have : (w * w != n).toNat = 0 := by rw [hx]; simp
      rw [this, Nat.add_zero]
      have : w ≤ B := by
        rcases Nat.lt_or_ge B w with hh | hh
        · exfalso
          have := Nat.mul_lt_mul_of_lt_of_le hh (Nat.le_of_lt hh) (by omega)
          omega
        · exact hh
      omega
    · have : (w * w != n).toNat = 1 := by
        have : (w * w != n) = true := by simpa using hx
        rw [this]; rfl
      rw [this]
      have : w < B := by
        rcases Nat.lt_or_ge w B with hh | hh
        · exact hh
        · exfalso
          have := Nat.mul_le_mul hh hh
          omega
      omega

/-- the square root, up to which not-a-number it is -/
def fsqrt (x : Nat) : Nat := canon .f64 ((FloatKind.f64.format.sqrt x).getD (qnan .f64))
def fsqrtV (x : Nat) (w : World) : Nat := (FloatKind.f64.format.sqrt x).getD (Question.cut (.nanBits .f64 x x) (w.tape w.drawn (.nanBits .f64 x x)))
def fsqrtN (x : Nat) : Nat := if (FloatKind.f64.format.sqrt x).isSome then 0 else 1

theorem sqrt_nan {x : Nat} (h : isn .f64 x = true) : FloatKind.f64.format.sqrt x = none := by
  obtain ⟨s, f, e⟩ := isn_iff.1 h
  unfold Ieee.Format.sqrt; rw [e]; rfl
theorem sqrt_canon (x : Nat) : FloatKind.f64.format.sqrt (canon .f64 x) = FloatKind.f64.format.sqrt x := by
  cases h : isn .f64 x
  · rw [canon_of_not h]
  · rw [sqrt_nan h, sqrt_nan (by rw [isn_canon, h])]
theorem canon_fsqrtV (x : Nat) (w : World) : canon .f64 (fsqrtV x w) = fsqrt (canon .f64 x) := by
  unfold fsqrtV fsqrt
  rw [sqrt_canon]
  cases FloatKind.f64.format.sqrt x with
  | some r => rfl
  | none => simp only [Option.getD_none]; rw [canon_of_nan (cut_nanBits ..), canon_of_nan (isn_qnan .f64)]

section
variable {P : Program} (w : World)
theorem run_sqrt (x : Nat) : (Extern.MathSqrt.sqrt #[.float .f64 x]).run P w = .ok (.float .f64 (fsqrtV x w)) (w.drewN (fsqrtN x)) := by
  have e : Extern.MathSqrt.sqrt #[.float .f64 x] = (match FloatKind.f64.format.sqrt x with
    | some r => pure (.float .f64 r)
    | none => do pure (.float .f64 (← choose (.nanBits .f64 x x)))) := rfl
  rw [e]
  unfold fsqrtV fsqrtN
  cases h : FloatKind.f64.format.sqrt x <;> simp [Question.forced, World.drew_is_drewN, World.drewN_zero]
end

/-- a number that is not less than 0, and at most '2 ^ j' -/
def BdP (k : FloatKind) (j : Int) (b : Nat) : Prop := ∃ m e, k.decode b = .number false m e ∧ Le2 m e j
theorem bdp_bd {k : FloatKind} {j : Int} {b : Nat} (h : BdP k j b) : Bd k j b := let ⟨m, e, h1, h2⟩ := h; ⟨false, m, e, h1, h2⟩
theorem bdp_mono {k : FloatKind} {j j' : Int} {b : Nat} (h : BdP k j b) (hj : j ≤ j') : BdP k j' b :=
  let ⟨m, e, hd, hl⟩ := h
  ⟨m, e, hd, le2_mono hl hj⟩

theorem read_write_neg {f : Ieee.Format} {s t : Bool} {m n : Nat} {e i : Int} (h : f.read (f.write (.number s m e)) = .number t n i) : t = s := by
  have hw : ∀ r, r < f.signWeight → (f.word s r / f.signWeight % 2 == 1) = s := by
    intro r hr
    have hsw : 0 < f.signWeight := Nat.two_pow_pos _
    unfold Ieee.Format.word
    cases s
    · simp [Nat.div_eq_of_lt hr]
    · simp only [if_true]
      rw [Nat.add_comm, Nat.add_div_right _ hsw, Nat.div_eq_of_lt hr]; rfl
  have hi := f.infRung_lt
  have key : ∀ r, r < f.signWeight → f.read (f.word s r) = .number t n i → t = s := by
    intro r hr hh
    unfold Ieee.Format.read at hh
    simp only [hw r hr] at hh
    split at hh
    · simp only [Ieee.Datum.number.injEq] at hh; exact hh.1.symm
    · split at hh
      · simp only [Ieee.Datum.number.injEq] at hh; exact hh.1.symm
      · split at hh <;> cases hh
  have h' : f.read (f.nearest s m e) = .number t n i := h
  unfold Ieee.Format.nearest at h'
  split at h'
  · exact key 0 (by omega) h'
  · exact key _ (Nat.lt_of_le_of_lt (Nat.min_le_right ..) hi) h'

theorem bdp_write {k : FloatKind} {p : Nat} {L top : Int} (F : Fmt k.format p L top) {m : Nat} {e j : Int} (h : Le2 m e j) (hlo : L + p + 1 ≤ j) (hhi : j ≤ top) : BdP k j (k.encode (.number false m e)) := by
  obtain ⟨s, m', e', h1, h2⟩ := bd_write F (s := false) h hlo hhi
  have := read_write_neg (f := k.format) h1
  subst this
  exact ⟨m', e', h1, h2⟩

theorem bdp_sqrt {j : Int} {x : Nat} (h : BdP .f64 (2 * j) x) (hlo : -1021 ≤ j) (hhi : j ≤ 1023) : FloatKind.f64.format.sqrt x = some (fsqrt x) ∧ BdP .f64 j (fsqrt x) := by
  obtain ⟨m, i, hd, hl⟩ := h
  have d1 : FloatKind.f64.format.read x = .number false m i := hd
  obtain ⟨r, hr⟩ : ∃ r, (Ieee.Datum.number false m i).root (FloatKind.f64.format.fractionBits + 2) = some r := by
    unfold Ieee.Datum.root
    simp only [Bool.false_eq_true, if_false]
    split
    · exact ⟨_, rfl⟩
    · exact ⟨_, rfl⟩
  obtain ⟨m', e', hre, hle⟩ := root_le hr hl
  have hb := bdp_write fmt64 hle (by omega) hhi
  have hs : FloatKind.f64.format.sqrt x = some (FloatKind.f64.encode (.number false m' e')) := by
    unfold Ieee.Format.sqrt
    rw [d1, hr, hre]; rfl
  have hf : fsqrt x = FloatKind.f64.encode (.number false m' e') := by
    unfold fsqrt
    rw [hs, Option.getD_some, bd_canon (bdp_bd hb)]
  rw [hf]
  exact ⟨hs, hb⟩

theorem over_number {b : Nat} {s : Bool} {m : Nat} {e : Int} (h : FloatKind.f64.decode b = .number s m e) : over b = (FloatKind.f32.decode (FloatKind.f32.encode (.number s m e))).isInfinity := by
  unfold over; rw [h]
theorem narrow_number {b : Nat} {s : Bool} {m : Nat} {e : Int} (h : FloatKind.f64.decode b = .number s m e) : narrow b = FloatKind.f32.encode (.number s m e) := by
  have hn : isn .f64 b = false := by unfold isn; rw [h]; rfl
  unfold narrow; rw [if_neg (by rw [hn]; decide), h]
theorem fin_not_inf {k : FloatKind} {b : Nat} (h : fin k b = true) : (k.decode b).isInfinity = false := by
  rw [fin_iff] at h; simpa using (Bool.and_eq_true_iff.1 h).2

theorem narrow_bd {j : Int} {b : Nat} (h : Bd .f64 j b) (hlo : -125 ≤ j) (hhi : j ≤ 127) : over b = false ∧ Bd .f32 j (narrow b) := by
  obtain ⟨s, m, e, hd, hl⟩ := h
  have hb := bd_write fmt32 (s := s) hl (by omega) hhi
  rw [over_number hd, narrow_number hd]
  exact ⟨fin_not_inf (bd_fin hb), hb⟩

end Go.Proofs.Ytpmjikchlofebaa
