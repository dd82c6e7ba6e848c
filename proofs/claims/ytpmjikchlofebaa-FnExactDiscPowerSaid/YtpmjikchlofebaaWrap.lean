/- Angles without whole turns: what is narrowed there is small. No statement is proved here. -/
import Derived.Test.YtpmjikchlofebaaSin
import Derived.Test.YtpmjikchlofebaaProf
namespace Go.Proofs.Ytpmjikchlofebaa
open Go Go.RowKit

theorem log2_at {M l : Nat} (h1 : 2 ^ l ≤ M) (h2 : M < 2 ^ (l + 1)) : M.log2 = l := by
  have h0 : M ≠ 0 := by have := Nat.two_pow_pos l; omega
  have a := (Nat.log2_lt h0 (k := l + 1)).2 h2
  have b := (Nat.le_log2 h0 (k := l)).2 h1
  omega

theorem cut_even_lo {neg : Bool} {m r g : Nat} (hr : 2 * r < 2 ^ g) (hl : g ≤ (m * 2 ^ g + r).log2 + 2) : Ieee.Toward.even.cut neg (m * 2 ^ g + r) g = m := by
  unfold Ieee.Toward.cut
  simp only [Nat.one_shiftLeft, Nat.min_eq_left hl]
  have hp : 0 < 2 ^ g := Nat.two_pow_pos g
  generalize 2 ^ g = gap at hr hp
  have e1 : (m * gap + r) / gap = m := by rw [Nat.add_comm, Nat.add_mul_div_right _ _ hp, Nat.div_eq_of_lt (by omega)]; omega
  have e2 : (m * gap + r) % gap = r := by rw [Nat.add_comm, Nat.add_mul_mod_self_right, Nat.mod_eq_of_lt (by omega)]
  rw [e1, e2]
  have e3 : decide (gap < 2 * r) = false := decide_eq_false (by omega)
  have e4 : (gap == 2 * r) = false := by rw [beq_eq_false_iff_ne]; omega
  rw [e3, e4]; simp
theorem cut_even_hi {neg : Bool} {m r g : Nat} (hr : 2 ^ g < 2 * r) (hr2 : r < 2 ^ g) (hl : g ≤ (m * 2 ^ g + r).log2 + 2) : Ieee.Toward.even.cut neg (m * 2 ^ g + r) g = m + 1 := by
  unfold Ieee.Toward.cut
  simp only [Nat.one_shiftLeft, Nat.min_eq_left hl]
  have hp : 0 < 2 ^ g := Nat.two_pow_pos g
  generalize 2 ^ g = gap at hr hr2 hp
  have e1 : (m * gap + r) / gap = m := by rw [Nat.add_comm, Nat.add_mul_div_right _ _ hp, Nat.div_eq_of_lt (by omega)]; omega
  have e2 : (m * gap + r) % gap = r := by rw [Nat.add_comm, Nat.add_mul_mod_self_right, Nat.mod_eq_of_lt (by omega)]
  rw [e1, e2]
  have e3 : decide (gap < 2 * r) = true := decide_eq_true (by omega)
  rw [e3]; simp

/-- a number of the format is written, though a little beside it was told -/
theorem nearest_absorb {f : Ieee.Format} {p : Nat} {L top : Int} (F : Fmt f p L top) (neg : Bool) {M m g : Nat} {b e : Int} (hm1 : 2 ^ p ≤ m) (hm2 : m < 2 ^ (p + 1)) (hL : L < e) (hb : b + (g : Int) = e) (hg : 3 ≤ g)
    (h : ∃ r, 4 * r < 2 ^ g ∧ (M = m * 2 ^ g + r ∨ M + r = m * 2 ^ g)) :
    f.nearest neg M b = f.word neg (min ((e - L).toNat * 2 ^ p + m) f.infRung) := by
  obtain ⟨r, hr, hM⟩ := h
  have hp : 0 < 2 ^ p := Nat.two_pow_pos p
  have hG : 0 < 2 ^ g := Nat.two_pow_pos g
  have hG8 : 8 ≤ 2 ^ g := by
    have : 2 ^ 3 ≤ 2 ^ g := Nat.pow_le_pow_right (by decide) hg
    omega
  have hmg : 2 ^ g ≤ m * 2 ^ g := Nat.le_mul_of_pos_left _ (by omega)
  have h0 : M ≠ 0 := by omega
  have hpg : 2 ^ (p + g) = 2 ^ p * 2 ^ g := Nat.pow_add ..
  have hpg1 : 2 ^ (p + g + 1) = 2 ^ (p + 1) * 2 ^ g := by rw [← Nat.pow_add]; exact congrArg (fun x => 2 ^ x) (by omega)
  unfold Ieee.Format.nearest
  rw [if_neg h0]
  simp only [F.frac, F.least, F.bin]
  rcases hM with hM | hM
  · have hlo : 2 ^ (p + g) ≤ M := by rw [hpg, hM]; exact Nat.le_trans (Nat.mul_le_mul_right _ hm1) (Nat.le_add_right _ _)
    have hhi : M < 2 ^ (p + g + 1) := by
      have : (m + 1) * 2 ^ g ≤ 2 ^ (p + 1) * 2 ^ g := Nat.mul_le_mul_right _ (by omega)
      rw [Nat.add_mul] at this
      rw [hpg1]; omega
    have hlog := log2_at hlo hhi
    have hlast : max (b + (M.log2 : Int) - (p : Int)) L = e := by rw [hlog]; omega
    rw [hlast, show (b - e).toNat = 0 by omega, show (e - b).toNat = g by omega, Nat.shiftLeft_zero]
    have hc : Ieee.Toward.even.cut neg M g = m := by
      subst hM
      exact cut_even_lo (by omega) (by rw [hlog]; omega)
    rw [hc]
  · by_cases hmm : m = 2 ^ p
    · have hr0 : r = 0 ∨ 0 < r := by omega
      rcases hr0 with hr0 | hr0
      · subst hr0
        have hlo : 2 ^ (p + g) ≤ M := by rw [hpg, ← hmm]; omega
        have hhi : M < 2 ^ (p + g + 1) := by rw [Nat.pow_succ, hpg, ← hmm]; omega
        have hlog := log2_at hlo hhi
        have hlast : max (b + (M.log2 : Int) - (p : Int)) L = e := by rw [hlog]; omega
        rw [hlast, show (b - e).toNat = 0 by omega, show (e - b).toNat = g by omega, Nat.shiftLeft_zero]
        have hc : Ieee.Toward.even.cut neg M g = m := by
          have hM' : M = m * 2 ^ g + 0 := by omega
          rw [hM']
          exact cut_even_lo (by omega) (by rw [← hM', hlog]; omega)
        rw [hc]
      · have hg1 : 2 ^ g = 2 * 2 ^ (g - 1) := by rw [show g = g - 1 + 1 by omega, Nat.pow_succ, Nat.mul_comm]; simp
        have hlo : 2 ^ (p + g - 1) ≤ M := by
          have e1 : 2 ^ (p + g) = 2 * 2 ^ (p + g - 1) := by rw [show p + g = p + g - 1 + 1 by omega, Nat.pow_succ, Nat.mul_comm]; simp
          have e2 : 2 ^ g ≤ 2 ^ (p + g) := Nat.pow_le_pow_right (by decide) (by omega)
          rw [hmm, ← hpg] at hM
          omega
        have hhi : M < 2 ^ (p + g - 1 + 1) := by
          rw [show p + g - 1 + 1 = p + g by omega, hpg, ← hmm]; omega
        have hlog := log2_at hlo hhi
        have hlast : max (b + (M.log2 : Int) - (p : Int)) L = e - 1 := by rw [hlog]; omega
        rw [hlast, show (b - (e - 1)).toNat = 0 by omega, show (e - 1 - b).toNat = g - 1 by omega, Nat.shiftLeft_zero]
        have hM' : M = (2 ^ (p + 1) - 1) * 2 ^ (g - 1) + (2 ^ (g - 1) - r) := by
          have e1 : 2 ^ (p + 1) * 2 ^ (g - 1) = m * 2 ^ g := by rw [hmm, hg1, Nat.pow_succ]; rw [Nat.mul_assoc]
          have e2 : (2 ^ (p + 1) - 1 + 1) * 2 ^ (g - 1) = m * 2 ^ g := by rw [Nat.sub_add_cancel (Nat.one_le_two_pow)]; exact e1
          rw [Nat.add_mul] at e2
          omega
        have hc : Ieee.Toward.even.cut neg M (g - 1) = 2 ^ (p + 1) - 1 + 1 := by
          rw [hM']
          exact cut_even_hi (by omega) (by omega) (by rw [← hM', hlog]; omega)
        rw [hc, Nat.sub_add_cancel (Nat.one_le_two_pow)]
        have e3 : (e - L).toNat = (e - 1 - L).toNat + 1 := by omega
        have e4 : (e - 1 - L).toNat * 2 ^ p + 2 ^ (p + 1) = (e - L).toNat * 2 ^ p + m := by
          rw [e3, hmm, Nat.add_mul, Nat.pow_succ]; omega
        rw [e4]
    · by_cases hr0 : r = 0
      · subst hr0
        have hlo : 2 ^ (p + g) ≤ M := by
          rw [hpg]; have := Nat.mul_le_mul_right (2 ^ g) hm1; omega
        have hhi : M < 2 ^ (p + g + 1) := by
          have : (m + 1) * 2 ^ g ≤ 2 ^ (p + 1) * 2 ^ g := Nat.mul_le_mul_right _ (by omega)
          rw [Nat.add_mul] at this
          rw [hpg1]; omega
        have hlog := log2_at hlo hhi
        have hlast : max (b + (M.log2 : Int) - (p : Int)) L = e := by rw [hlog]; omega
        rw [hlast, show (b - e).toNat = 0 by omega, show (e - b).toNat = g by omega, Nat.shiftLeft_zero]
        have hc : Ieee.Toward.even.cut neg M g = m := by
          have hM' : M = m * 2 ^ g + 0 := by omega
          rw [hM']
          exact cut_even_lo (by omega) (by rw [← hM', hlog]; omega)
        rw [hc]
      · have hM' : M = (m - 1) * 2 ^ g + (2 ^ g - r) := by
          have e2 : (m - 1 + 1) * 2 ^ g = m * 2 ^ g := by rw [Nat.sub_add_cancel (by omega)]
          rw [Nat.add_mul] at e2
          omega
        have hlo : 2 ^ (p + g) ≤ M := by
          rw [hpg, hM']
          have : 2 ^ p * 2 ^ g ≤ (m - 1) * 2 ^ g := Nat.mul_le_mul_right _ (by omega)
          omega
        have hhi : M < 2 ^ (p + g + 1) := by
          have : m * 2 ^ g ≤ 2 ^ (p + 1) * 2 ^ g := Nat.mul_le_mul_right _ (by omega)
          rw [hpg1]; omega
        have hlog := log2_at hlo hhi
        have hlast : max (b + (M.log2 : Int) - (p : Int)) L = e := by rw [hlog]; omega
        rw [hlast, show (b - e).toNat = 0 by omega, show (e - b).toNat = g by omega, Nat.shiftLeft_zero]
        have hc : Ieee.Toward.even.cut neg M g = m - 1 + 1 := by
          rw [hM']
          exact cut_even_hi (by omega) (by omega) (by rw [← hM', hlog]; omega)
        rw [hc, Nat.sub_add_cancel (by omega)]

theorem read_rung {f : Ieee.Format} {p : Nat} {L top : Int} (F : Fmt f p L top) (s : Bool) {M : Nat} {E : Int} (hL : L ≤ E) (h1 : 2 ^ p ≤ M) (h2 : M < 2 ^ (p + 1)) (hi : (E - L).toNat * 2 ^ p + M < f.infRung) :
    f.read (f.word s ((E - L).toNat * 2 ^ p + M)) = .number s M E := by
  have hsw := f.infRung_lt
  have hsw0 : 0 < f.signWeight := Nat.two_pow_pos _
  have hp0 : 0 < 2 ^ p := Nat.two_pow_pos p
  have e3 : 2 ^ (p + 1) = 2 * 2 ^ p := by rw [Nat.pow_succ, Nat.mul_comm]
  generalize hr : (E - L).toNat * 2 ^ p + M = r at hi
  have hmod : f.word s r % f.signWeight = r := by
    unfold Ieee.Format.word; split
    · rw [Nat.add_mod_left, Nat.mod_eq_of_lt (by omega)]
    · rw [Nat.mod_eq_of_lt (by omega)]
  have hneg : (f.word s r / f.signWeight % 2 == 1) = s := by
    unfold Ieee.Format.word
    cases s
    · simp [Nat.div_eq_of_lt (show r < f.signWeight by omega)]
    · simp only [if_true]
      rw [Nat.add_comm, Nat.add_div_right _ hsw0, Nat.div_eq_of_lt (by omega)]; rfl
  unfold Ieee.Format.read
  simp only [hmod, hneg, F.bin, F.least, if_pos hi]
  obtain ⟨M', rfl⟩ : ∃ M', M = 2 ^ p + M' := ⟨M - 2 ^ p, by omega⟩
  have hq : r = M' + ((E - L).toNat + 1) * 2 ^ p := by rw [← hr, Nat.add_mul]; omega
  have d1 : r / 2 ^ p = (E - L).toNat + 1 := by rw [hq, Nat.add_mul_div_right _ _ hp0, Nat.div_eq_of_lt (by omega)]; omega
  have d2 : r % 2 ^ p = M' := by rw [hq, Nat.add_mul_mod_self_right, Nat.mod_eq_of_lt (by omega)]
  have hge : ¬ r < 2 ^ p := by omega
  rw [if_neg hge, d1, d2]
  congr 1
  omega

theorem read_norm {b : Nat} {s : Bool} {M : Nat} {E : Int} (h : FloatKind.f64.decode b = .number s M E) (hE : -1074 < E) : 2 ^ 52 ≤ M ∧ M < 2 ^ (52 + 1) := by
  have h' : FloatKind.f64.format.read b = .number s M E := h
  have hp : 0 < (2 : Nat) ^ 52 := Nat.two_pow_pos _
  unfold Ieee.Format.read at h'
  simp only [f64_binade, f64_least] at h'
  split at h'
  · simp only [Ieee.Datum.number.injEq] at h'
    omega
  · split at h'
    · simp only [Ieee.Datum.number.injEq] at h'
      obtain ⟨-, hm, -⟩ := h'
      have := Nat.mod_lt (b % FloatKind.f64.format.signWeight) hp
      have e3 : (2 : Nat) ^ (52 + 1) = 2 * 2 ^ 52 := by decide
      omega
    · split at h' <;> cases h'

/-- a number of at least 2 to the power of 62 is its own word again -/
theorem big_word {s : Bool} {M : Nat} {E : Int} (h1 : 2 ^ 52 ≤ M) (h2 : M < 2 ^ (52 + 1)) (hE : 10 ≤ E) (hE2 : E ≤ 971) :
    FloatKind.f64.decode (FloatKind.f64.format.word s (min ((E - -1074).toNat * 2 ^ 52 + M) FloatKind.f64.format.infRung)) = .number s M E := by
  have hlt : (E - -1074).toNat * 2 ^ 52 + M < FloatKind.f64.format.infRung := by
    rw [f64_inf]
    have : (E - -1074).toNat ≤ 2045 := by omega
    have := Nat.mul_le_mul_right (2 ^ 52) this
    have e3 : (2 : Nat) ^ (52 + 1) = 2 * 2 ^ 52 := by decide
    omega
  rw [Nat.min_eq_left (Nat.le_of_lt hlt)]
  exact read_rung fmt64 s (by omega) h1 h2 hlt

/-- the greatest integer that is not greater -/
def flo (b : Nat) : Nat := FloatKind.f64.encode ((FloatKind.f64.decode b).integral .down)
def wrapA (y : Nat) : Nat := fop .add .f64 y 4602678819172646912
def wrapD (y : Nat) : Nat := fop .sub .f64 y (flo (wrapA y))

theorem flo_big {b : Nat} {s : Bool} {M : Nat} {E : Int} (h : FloatKind.f64.decode b = .number s M E) (h1 : 2 ^ 52 ≤ M) (h2 : M < 2 ^ (52 + 1)) (hE : 10 ≤ E) (hE2 : E ≤ 971) :
    FloatKind.f64.decode (flo b) = .number s M E := by
  unfold flo
  rw [h]
  show FloatKind.f64.decode (FloatKind.f64.format.nearest s (Ieee.Toward.down.cut s (M <<< E.toNat) (-E).toNat) 0) = _
  rw [show (-E).toNat = 0 by omega, cut_zero, Nat.shiftLeft_eq]
  have hg : (3 : Nat) ≤ E.toNat := by omega
  rw [nearest_absorb fmt64 s (M := M * 2 ^ E.toNat) (m := M) (g := E.toNat) (e := E) h1 h2 (by omega) (by omega) hg ⟨0, Nat.two_pow_pos _, .inl rfl⟩]
  exact big_word h1 h2 hE hE2

theorem half_read : FloatKind.f64.format.read 4602678819172646912 = .number false 4503599627370496 (-53) := by decide +kernel

theorem wrapA_big {y : Nat} {s : Bool} {M : Nat} {E : Int} (h : FloatKind.f64.decode y = .number s M E) (h1 : 2 ^ 52 ≤ M) (h2 : M < 2 ^ (52 + 1)) (hE : 10 ≤ E) (hE2 : E ≤ 971) :
    FloatKind.f64.decode (wrapA y) = .number s M E := by
  have hb : min E (-53) = -53 := by omega
  generalize hg : (E - -53).toNat = g
  have hg63 : 63 ≤ g := by omega
  have hG : 2 ^ 63 ≤ 2 ^ g := Nat.pow_le_pow_right (by decide) hg63
  have hMG : 2 ^ 52 * 2 ^ g ≤ M * 2 ^ g := Nat.mul_le_mul_right _ h1
  have hbig : 4503599627370496 < M * 2 ^ g := by
    have e : (2 : Nat) ^ 63 = 9223372036854775808 := by decide
    have e2 : (2 : Nat) ^ g ≤ 2 ^ 52 * 2 ^ g := Nat.le_mul_of_pos_left _ (Nat.two_pow_pos _)
    omega
  obtain ⟨T, hsum, hT⟩ : ∃ T, (Ieee.Datum.number s M E).sum (.number false 4503599627370496 (-53)) = some (.number s T (-53)) ∧ (T = M * 2 ^ g + 4503599627370496 ∨ T + 4503599627370496 = M * 2 ^ g) := by
    simp only [Ieee.Datum.sum, hb, hg, Ieee.signed, Bool.false_eq_true, if_false, Nat.shiftLeft_eq, Int.sub_self, Int.toNat_zero, Nat.pow_zero, Nat.mul_one]
    generalize M * 2 ^ g = A at hbig
    cases s
    · simp only [Bool.false_eq_true, if_false]
      refine ⟨A + 4503599627370496, ?_, .inl rfl⟩
      rw [if_neg (by omega)]
      have e1 : decide ((A : Int) + ((4503599627370496 : Nat) : Int) < 0) = false := decide_eq_false (by omega)
      have e2 : ((A : Int) + ((4503599627370496 : Nat) : Int)).natAbs = A + 4503599627370496 := by omega
      rw [e1, e2]
    · simp only [if_true]
      refine ⟨A - 4503599627370496, ?_, .inr (by omega)⟩
      rw [if_neg (by omega)]
      have e1 : decide (-(A : Int) + ((4503599627370496 : Nat) : Int) < 0) = true := decide_eq_true (by omega)
      have e2 : (-(A : Int) + ((4503599627370496 : Nat) : Int)).natAbs = A - 4503599627370496 := by omega
      rw [e1, e2]
  have e : floatBits .add .f64 y 4602678819172646912 = some (FloatKind.f64.format.nearest s T (-53)) := by
    unfold floatBits Ieee.Format.add
    have d1 : FloatKind.f64.format.read y = .number s M E := h
    rw [d1, half_read]
    exact congrArg (Option.map FloatKind.f64.format.write) hsum
  have hw : FloatKind.f64.format.nearest s T (-53) = FloatKind.f64.format.word s (min ((E - -1074).toNat * 2 ^ 52 + M) FloatKind.f64.format.infRung) :=
    nearest_absorb fmt64 s h1 h2 (by omega) (by omega) (by omega) ⟨4503599627370496, by
      have e' : (2 : Nat) ^ 63 = 9223372036854775808 := by decide
      omega, hT⟩
  have hd := big_word (s := s) h1 h2 hE hE2
  unfold wrapA fop
  rw [e, Option.getD_some, hw, canon_of_not (by unfold isn; rw [hd]; rfl)]
  exact hd

theorem wrapD_big {y : Nat} {s : Bool} {M : Nat} {E : Int} (h : FloatKind.f64.decode y = .number s M E) (h1 : 2 ^ 52 ≤ M) (h2 : M < 2 ^ (52 + 1)) (hE : 10 ≤ E) (hE2 : E ≤ 971) :
    wrapD y = 0 := by
  have hf := flo_big (wrapA_big h h1 h2 hE hE2) h1 h2 hE hE2
  have d1 : FloatKind.f64.format.read y = .number s M E := h
  have d2 : FloatKind.f64.format.read (flo (wrapA y)) = .number s M E := hf
  have e : floatBits .sub .f64 y (flo (wrapA y)) = some 0 := by
    unfold floatBits Ieee.Format.sub
    rw [d1, d2]
    simp only [Ieee.Datum.opposite, Ieee.Datum.sum, Int.min_self, Int.sub_self, Option.map_some]
    have : Ieee.signed s M (0 : Int).toNat + Ieee.signed (!s) M (0 : Int).toNat = 0 := by
      unfold Ieee.signed; cases s <;> simp <;> omega
    rw [this]
    cases s <;> rfl
  unfold wrapD fop
  rw [e]
  decide +kernel

theorem cut_floor (neg : Bool) (n drop : Nat) : Ieee.Toward.down.cut neg n drop ≤ Ieee.Toward.zero.cut neg n drop + 1 := by
  unfold Ieee.Toward.cut
  simp only []
  have : ∀ b : Bool, b.toNat ≤ 1 := by intro b; cases b <;> decide
  have := this (neg && n % (1 <<< min drop (n.log2 + 2)) != 0)
  simp only [Bool.toNat_false]
  omega

theorem flo_bd {k : Int} {b : Nat} (h : Bd .f64 k b) (h0 : 0 ≤ k) (h1 : k ≤ 1000) : Bd .f64 (k + 1) (flo b) := by
  obtain ⟨s, m, e, hd, hl⟩ := h
  have hw := whole_le hl h0
  unfold flo
  rw [hd]
  refine bd_write fmt64 (s := s) (m := Ieee.Toward.down.cut s (m <<< e.toNat) (-e).toNat) (e := 0) ?_ (by omega) (by omega)
  have hc := cut_floor s (m <<< e.toNat) (-e).toNat
  rw [cut_down, Nat.shiftLeft_eq] at hc
  have hc2 : Ieee.Toward.down.cut s (m <<< e.toNat) (-e).toNat ≤ 2 ^ k.toNat + 1 := by
    unfold whole at hw
    rw [Nat.shiftLeft_eq]
    omega
  refine ⟨Nat.le_trans hc2 ?_, fun hh => by omega⟩
  rw [show (k + 1 - 0).toNat = k.toNat + 1 by omega, Nat.pow_succ]
  have := Nat.one_le_two_pow (n := k.toNat)
  omega

/-- what the walk is told of a finite number -/
structure WrapFacts (y : Nat) : Prop where
  a : ∀ w, fopV .add .f64 y 4602678819172646912 w = wrapA y
  an : fopN .add .f64 y 4602678819172646912 = 0
  nn : isn .f64 (wrapA y) = false
  d : ∀ w, fopV .sub .f64 y (flo (wrapA y)) w = wrapD y
  dn : fopN .sub .f64 y (flo (wrapA y)) = 0
  n : ∀ w, narrowV (wrapD y) w = narrow (wrapD y)
  nN : narrowN (wrapD y) = 0
  nb : Bd .f32 66 (narrow (wrapD y))

theorem wrapFacts {y : Nat} (hf : fin .f64 y = true) : WrapFacts y := by
  cases hd : FloatKind.f64.decode y with
  | nan s f => unfold fin at hf; rw [hd] at hf; cases hf
  | infinity s => unfold fin at hf; rw [hd] at hf; cases hf
  | number s M E =>
    obtain ⟨hM, hE1, hE2⟩ := f64_number hd
    by_cases hE : 10 ≤ E
    · obtain ⟨h1, h2⟩ := read_norm hd (by omega)
      have hA := wrapA_big hd h1 h2 hE hE2
      have hD := wrapD_big hd h1 h2 hE hE2
      have hAn : isn .f64 (wrapA y) = false := by unfold isn; rw [hA]; rfl
      have a := fop_sure (op := .add) (k := .f64) (x := y) (y := 4602678819172646912) hAn
      have z : isn .f64 (fop .sub .f64 y (flo (wrapA y))) = false := by
        show isn .f64 (wrapD y) = false
        rw [hD]; decide +kernel
      have d := fop_sure z
      have hz : Bd .f64 0 (wrapD y) := by rw [hD]; exact ⟨false, 0, -1074, by decide +kernel, le2_zero _ _⟩
      have n := narrow_bd_sure hz (by decide) (by decide)
      exact ⟨a.1, a.2, hAn, d.1, d.2, n.1, n.2, bd_mono (narrow_bd hz (by decide) (by decide)).2 (by decide)⟩
    · have hb : Bd .f64 63 y := ⟨s, M, E, hd, by
        refine ⟨?_, fun h => by omega⟩
        have : (2 : Nat) ^ 54 ≤ 2 ^ (63 - E).toNat := Nat.pow_le_pow_right (by decide) (by omega)
        have e : (2 : Nat) ^ 54 = 18014398509481984 := by decide
        omega⟩
      have hA : Bd .f64 64 (wrapA y) := bd_add fmt64 hb (bd_mono bd_half (by decide)) (by decide) (by decide)
      have hF : Bd .f64 65 (flo (wrapA y)) := flo_bd hA (by decide) (by decide)
      have hD : Bd .f64 66 (wrapD y) := bd_sub fmt64 (bd_mono hb (by decide)) hF (by decide) (by decide)
      have a := bd_sure (op := .add) (k := .f64) (x := y) (y := 4602678819172646912) hA
      have d := bd_sure (op := .sub) (k := .f64) (x := y) (y := flo (wrapA y)) hD
      have n := narrow_bd_sure hD (by decide) (by decide)
      exact ⟨a.1, a.2, bd_not_nan hA, d.1, d.2, n.1, n.2, (narrow_bd hD (by decide) (by decide)).2⟩

/-- an angle without whole turns -/
def wrapN (b : Nat) : Nat := narrow (wrapD (wide b))
def wrapT (b : Nat) : Nat := if geq32 (wrapN b) 1056964608 then 3204448256 else wrapN b
theorem wrapT_bd {b : Nat} (hb : fin .f32 b = true) : Bd .f32 66 (wrapT b) := by
  have h := (wrapFacts (y := wide b) (by rw [fin_wide]; exact hb)).nb
  unfold wrapT
  split
  · exact ⟨true, 8388608, -24, by decide +kernel, by unfold Le2; decide⟩
  · exact h
theorem ext_floor (b : Nat) (hb : isn .f64 b = false) (w : World) : (callFunc 157 #[.float .f64 b]).run Try.prog w = .ok (.value (.float .f64 (flo b))) w := by
  rw [run_callFunc_extern Try.func157 (by kernel_rfl) (by kernel_rfl) (by kernel_rfl) (e := Extern.MathFloor.toIntegral "math.archFloor" .down) (by kernel_rfl)]
  have e : Extern.MathFloor.toIntegral "math.archFloor" .down #[.float .f64 b] = pure (.float .f64 (flo b)) := by
    unfold flo
    conv => lhs; whnf
    cases hd : FloatKind.f64.decode b with
    | nan s f => unfold isn at hb; rw [hd] at hb; cases hb
    | infinity s => rfl
    | number s m e => rfl
  rw [e]
  rfl
theorem m_Floor (b : Nat) (hb : isn .f64 b = false) (w : World) :
    Calls Try.prog 131 #[.float .f64 b] w fun e w' => e = .returned (.float .f64 (flo b)) ∧ w' = w := by
  have hf := ext_floor b hb
  clear hb
  go_enter Try.func131, Try.ntmps131
  go_wp2
  go_ret
  exact ⟨rfl, rfl⟩
theorem i_NarrowNumber (b : Nat) (w : World) :
    Calls Try.prog 124 #[.float .f64 b] w fun e w' => e = .returned (.float .f32 (narrowV b w)) ∧ w' = w.drewN (narrowN b) := by
  go_enter Try.func124, Try.ntmps124
  go_wp2
  go_ret
  exact ⟨rfl, rfl⟩
theorem s_l01Narrow (b : Nat) (w : World) :
    Calls Try.prog 119 #[.float .f64 b] w fun e w' => e = .returned (.float .f32 (narrowV b w)) ∧ w' = w.drewN (narrowN b) := by
  go_enter Try.func119, Try.ntmps119
  go_wp2
  go_ret
  exact ⟨rfl, rfl⟩
end Go.Proofs.Ytpmjikchlofebaa
