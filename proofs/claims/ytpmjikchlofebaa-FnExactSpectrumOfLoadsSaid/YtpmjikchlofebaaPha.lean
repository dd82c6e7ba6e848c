/- The mathematics of phasors: quarters of turns. No statement is proved here. -/
import Derived.Test.YtpmjikchlofebaaMono
namespace Go.Proofs.Ytpmjikchlofebaa
open Go Go.RowKit

/-- not greater than n * 2 ^ j -/
def LeW (f n : Nat) (j : Int) : Prop := ∃ s m e, FloatKind.f64.decode f = .number s m e ∧ (s = false → LeN m e n j)
def big4 (f : Nat) : Bool := FloatKind.f64.format.order f 4598175219545276416 == some .gt || FloatKind.f64.format.order f 4598175219545276416 == some .eq
def qit (f : Nat) : Nat → Nat
  | 0 => f
  | n + 1 => fop .sub .f64 (qit f n) 4598175219545276416
def quarters (f : Nat) : Nat := if big4 f then if big4 (qit f 1) then if big4 (qit f 2) then if big4 (qit f 3) then 4 else 3 else 2 else 1 else 0

theorem quarter_read : FloatKind.f64.decode 4598175219545276416 = .number false 4503599627370496 (-54) := by decide +kernel

theorem big4_number {f : Nat} {s : Bool} {m : Nat} {e : Int} (h : FloatKind.f64.decode f = .number s m e) (hb : big4 f = true) : s = false ∧ LeN 4503599627370496 (-54) m e := by
  unfold big4 at hb
  rw [order_numbers h quarter_read, cmp_gt, cmp_eq] at hb
  simp only [Ieee.signed, Bool.false_eq_true, if_false, Nat.shiftLeft_eq, Bool.or_eq_true, decide_eq_true_eq] at hb
  have hp : 0 < 2 ^ (-54 - min e (-54)).toNat := Nat.two_pow_pos _
  have hm : min e (-54 : Int) = min (-54) e := Int.min_comm ..
  cases s
  · refine ⟨rfl, ?_⟩
    unfold LeN
    rw [← hm]
    simp only [Bool.false_eq_true, if_false] at hb
    generalize 4503599627370496 * 2 ^ (-54 - min e (-54)).toNat = A at *
    generalize m * 2 ^ (e - min e (-54)).toNat = B at *
    omega
  · exfalso
    simp only [if_true] at hb
    generalize m * 2 ^ (e - min e (-54)).toNat = B at *
    generalize 2 ^ (-54 - min e (-54)).toNat = C at *
    omega

/-- one quarter less -/
theorem quarter_step {f n n' rc : Nat} {j j' : Int} (hf : LeW f n j) (hb : big4 f = true) (hj : -1074 ≤ j) (hj' : -1074 ≤ j') (hrc : rc < FloatKind.f64.format.infRung)
    (hn' : FloatKind.f64.format.read (FloatKind.f64.format.word false rc) = .number false n' j')
    (hv : n * 2 ^ (j + 1074).toNat = n' * 2 ^ (j' + 1074).toNat + 4503599627370496 * 2 ^ 1020) : LeW (fop .sub .f64 f 4598175219545276416) n' j' := by
  obtain ⟨s, m, e, hd, hle⟩ := hf
  obtain ⟨rfl, hge⟩ := big4_number hd hb
  have hle := hle rfl
  obtain ⟨-, he, -⟩ := f64_number hd
  have d1 : FloatKind.f64.format.read f = .number false m e := hd
  have d2 : FloatKind.f64.format.read 4598175219545276416 = .number false 4503599627370496 (-54) := quarter_read
  have hge' : 4503599627370496 * 2 ^ (-54 - min e (-54)).toNat ≤ m * 2 ^ (e - min e (-54)).toNat := leN_at hge (by omega) (by omega)
  obtain ⟨t, hsum⟩ : ∃ t, (Ieee.Datum.number false m e).sum (Ieee.Datum.number false 4503599627370496 (-54)).opposite = some (.number t (m * 2 ^ (e - min e (-54)).toNat - 4503599627370496 * 2 ^ (-54 - min e (-54)).toNat) (min e (-54))) := by
    simp only [Ieee.Datum.opposite, Ieee.Datum.sum, Ieee.signed, Bool.not_false, Bool.false_eq_true, if_false, if_true, Nat.shiftLeft_eq]
    generalize m * 2 ^ (e - min e (-54)).toNat = A at *
    generalize 4503599627370496 * 2 ^ (-54 - min e (-54)).toNat = B at *
    have : ((A : Int) + -(B : Int)).natAbs = A - B := by omega
    exact ⟨_, congrArg (fun z => some (Ieee.Datum.number _ z _)) this⟩
  have hleN : LeN (m * 2 ^ (e - min e (-54)).toNat - 4503599627370496 * 2 ^ (-54 - min e (-54)).toNat) (min e (-54)) n' j' := by
    refine leN_of (b := -1074) ?_ (by omega) hj'
    have h1 := leN_at hle (b := -1074) he hj
    rw [Nat.sub_mul, Nat.mul_assoc, ← Nat.pow_add, Nat.mul_assoc, ← Nat.pow_add]
    rw [show (e - min e (-54)).toNat + (min e (-54) - -1074).toNat = (e - -1074).toNat by omega,
      show ((-54 : Int) - min e (-54)).toNat + (min e (-54) - -1074).toNat = 1020 by omega]
    rw [show (j - -1074).toNat = (j + 1074).toNat by omega] at h1
    rw [show (j' - -1074).toNat = (j' + 1074).toNat by omega]
    generalize m * 2 ^ (e - -1074).toNat = A at *
    generalize n * 2 ^ (j + 1074).toNat = B at *
    generalize n' * 2 ^ (j' + 1074).toNat = C at *
    generalize 4503599627370496 * 2 ^ 1020 = D at *
    omega
  obtain ⟨m', e', hr, hl⟩ := write_mono fmt64 (s := t) hrc hn' hleN
  have e1 : floatBits .sub .f64 f 4598175219545276416 = some (FloatKind.f64.encode (.number t (m * 2 ^ (e - min e (-54)).toNat - 4503599627370496 * 2 ^ (-54 - min e (-54)).toNat) (min e (-54)))) := by
    unfold floatBits Ieee.Format.sub
    rw [d1, d2]
    exact congrArg (Option.map FloatKind.f64.format.write) hsum
  have hf' : fop .sub .f64 f 4598175219545276416 = FloatKind.f64.encode (.number t (m * 2 ^ (e - min e (-54)).toNat - 4503599627370496 * 2 ^ (-54 - min e (-54)).toNat) (min e (-54))) := by
    unfold fop
    rw [e1, Option.getD_some, canon_of_not (isn_encode rfl)]
  rw [hf']
  exact ⟨t, m', e', hr, fun _ => hl⟩

theorem w1_read : FloatKind.f64.format.read (FloatKind.f64.format.word false 4607182418800017408) = .number false 4503599627370496 (-52) := by decide +kernel
theorem w75_read : FloatKind.f64.format.read (FloatKind.f64.format.word false 4604930618986332160) = .number false 6755399441055744 (-53) := by decide +kernel
theorem w50_read : FloatKind.f64.format.read (FloatKind.f64.format.word false 4602678819172646912) = .number false 4503599627370496 (-53) := by decide +kernel
theorem w25_read : FloatKind.f64.format.read (FloatKind.f64.format.word false 4598175219545276416) = .number false 4503599627370496 (-54) := by decide +kernel
theorem w0_read : FloatKind.f64.format.read (FloatKind.f64.format.word false 0) = .number false 0 (-1074) := by decide +kernel

theorem fr_le {x : Nat} (h : Bd .f64 52 x) : LeW (fr x) 4503599627370496 (-52) := by
  have hd := frac_bd h
  obtain ⟨s, m, e, hdd, hl⟩ := hd
  have hdd' : FloatKind.f64.decode (frD x) = .number s m e := hdd
  have hone : LeN m e 4503599627370496 (-52) := by
    by_cases h0 : m = 0
    · subst h0; unfold LeN; simp
    · have he : e ≤ 0 := by
        rcases Int.lt_or_le 0 e with hh | hh
        · exact absurd (hl.2 hh) h0
        · exact hh
      refine leN_of (b := min e (-52)) ?_ (by omega) (by omega)
      have h1 := Nat.mul_le_mul_right (2 ^ (e - min e (-52)).toNat) hl.1
      rw [← Nat.pow_add] at h1
      refine Nat.le_trans h1 (Nat.le_of_eq ?_)
      rw [show (4503599627370496 : Nat) = 2 ^ 52 by decide, ← Nat.pow_add]
      exact congrArg (fun x => 2 ^ x) (by omega)
  unfold fr
  cases hn : frNeg x
  · rw [if_neg (by decide)]
    exact ⟨s, m, e, hdd', fun _ => hone⟩
  · rw [if_pos rfl]
    have z64 : FloatKind.f64.decode 0 = .number false 0 (-1074) := by decide +kernel
    unfold frNeg at hn
    rw [order_numbers hdd' z64, cmp_lt] at hn
    have hs : s = true := by
      cases s
      · have := of_decide_eq_true hn
        simp only [Ieee.signed, Bool.false_eq_true, if_false, Nat.shiftLeft_eq, Nat.zero_mul] at this
        omega
      · rfl
    subst hs
    have d1 : FloatKind.f64.format.read (frD x) = .number true m e := hdd'
    have d2 : FloatKind.f64.format.read 4607182418800017408 = .number false 4503599627370496 (-52) := by decide +kernel
    have h2 := leN_at hone (b := min e (-52)) (by omega) (by omega)
    obtain ⟨t, k, hsum, hk⟩ : ∃ t k, (Ieee.Datum.number true m e).sum (Ieee.Datum.number false 4503599627370496 (-52)) = some (.number t k (min e (-52))) ∧ k ≤ 4503599627370496 * 2 ^ (-52 - min e (-52)).toNat := by
      simp only [Ieee.Datum.sum, Ieee.signed, Bool.false_eq_true, if_false, if_true, Nat.shiftLeft_eq]
      refine ⟨_, _, rfl, ?_⟩
      generalize m * 2 ^ (e - min e (-52)).toNat = A at *
      generalize 4503599627370496 * 2 ^ (-52 - min e (-52)).toNat = B at *
      omega
    have hleN : LeN k (min e (-52)) 4503599627370496 (-52) := by
      refine leN_of (b := min e (-52)) ?_ (Int.le_refl _) (by omega)
      rw [Int.sub_self]; simpa using hk
    obtain ⟨m', e', hr, hl'⟩ := write_mono fmt64 (s := t) (rc := 4607182418800017408) (by rw [f64_inf]; decide) w1_read hleN
    have e1 : floatBits .add .f64 (frD x) 4607182418800017408 = some (FloatKind.f64.encode (.number t k (min e (-52)))) := by
      unfold floatBits Ieee.Format.add
      rw [d1, d2]
      exact congrArg (Option.map FloatKind.f64.format.write) hsum
    have hf' : fop .add .f64 (frD x) 4607182418800017408 = FloatKind.f64.encode (.number t k (min e (-52))) := by
      unfold fop
      rw [e1, Option.getD_some, canon_of_not (isn_encode rfl)]
    rw [hf']
    exact ⟨t, m', e', hr, fun _ => hl'⟩

theorem qit_bd {f : Nat} (h : Bd .f64 1 f) : ∀ k : Nat, k ≤ 4 → Bd .f64 (1 + k) (qit f k)
  | 0, _ => h
  | k + 1, hk => by
    have := bd_sub fmt64 (qit_bd h k (by omega)) (bd_mono bd_quarter (j' := 1 + k) (by omega)) (by omega) (by omega)
    rw [show (1 : Int) + ((k + 1 : Nat) : Int) = 1 + (k : Int) + 1 by omega]
    exact this
theorem qit_sure {f : Nat} (h : Bd .f64 1 f) (k : Nat) (hk : k < 4) : (∀ w, fopV .sub .f64 (qit f k) 4598175219545276416 w = qit f (k + 1)) ∧ fopN .sub .f64 (qit f k) 4598175219545276416 = 0 :=
  bd_sure (qit_bd h (k + 1) (by omega))

/-- no more than four quarters -/
theorem quarters_end {f : Nat} (h : LeW f 4503599627370496 (-52)) (h0 : big4 f = true) (h1 : big4 (qit f 1) = true) (h2 : big4 (qit f 2) = true) (h3 : big4 (qit f 3) = true) : big4 (qit f 4) = false := by
  have a1 := quarter_step (rc := 4604930618986332160) h h0 (by decide) (by decide) (by rw [f64_inf]; decide) w75_read (by decide +kernel)
  have a2 := quarter_step (f := qit f 1) (rc := 4602678819172646912) a1 h1 (by decide) (by decide) (by rw [f64_inf]; decide) w50_read (by decide +kernel)
  have a3 := quarter_step (f := qit f 2) (rc := 4598175219545276416) a2 h2 (by decide) (by decide) (by rw [f64_inf]; decide) w25_read (by decide +kernel)
  have a4 := quarter_step (f := qit f 3) (rc := 0) a3 h3 (by decide) (by decide) (by rw [f64_inf]; decide) w0_read (by decide +kernel)
  cases hb : big4 (qit f 4)
  · rfl
  · exfalso
    obtain ⟨s, m, e, hd, hl⟩ := a4
    obtain ⟨hs, hge⟩ := big4_number (f := qit f 4) hd hb
    have h5 := leN_trans hge (hl hs)
    unfold LeN at h5
    rw [Nat.zero_mul] at h5
    have := Nat.mul_pos (show 0 < 4503599627370496 by decide) (Nat.two_pow_pos ((-54 : Int) - min (-54) (-1074)).toNat)
    omega

def phC (f : Nat) : Nat := sinF (fr (fop .sub .f64 4598175219545276416 f))
def phS (f : Nat) : Nat := sinF (fr f)
def opp (b : Nat) : Nat := fop .sub .f64 0 b
def phRe (q c s : Nat) : Nat := if q = 1 then opp s else if q = 2 then opp c else if q = 3 then s else c
def phIm (q c s : Nat) : Nat := if q = 1 then c else if q = 2 then opp s else if q = 3 then opp c else s
/-- the parts of a phasor, in 64 bits -/
def phF (x : Nat) : Nat := qit (fr x) (quarters (fr x))
def phX (x : Nat) : Nat := phRe (quarters (fr x)) (phC (phF x)) (phS (phF x))
def phY (x : Nat) : Nat := phIm (quarters (fr x)) (phC (phF x)) (phS (phF x))

theorem quarters_le (f : Nat) : quarters f ≤ 4 := by
  unfold quarters; split
  · split
    · split
      · split <;> omega
      · omega
    · omega
  · omega
theorem q25_sure {f : Nat} {j : Int} (h : Bd .f64 j f) (h0 : 0 ≤ j) (h1 : j ≤ 20) : Bd .f64 52 (fop .sub .f64 4598175219545276416 f) ∧ (∀ w, fopV .sub .f64 4598175219545276416 f w = fop .sub .f64 4598175219545276416 f) ∧ fopN .sub .f64 4598175219545276416 f = 0 := by
  have := bd_sub fmt64 (bd_mono bd_quarter h0) h (by omega) (by omega)
  exact ⟨bd_mono this (by omega), bd_sure this⟩
theorem opp_bd {b : Nat} (h : Bd .f64 65 b) : Bd .f64 66 (opp b) := bd_sub fmt64 (bd_zero _) h (by decide) (by decide)
theorem phC_bd {f : Nat} {j : Int} (h : Bd .f64 j f) (h0 : 0 ≤ j) (h1 : j ≤ 20) : Bd .f64 65 (phC f) := sinF_bd (fr_bd (q25_sure h h0 h1).1)
theorem phS_bd {f : Nat} {j : Int} (h : Bd .f64 j f) (h1 : j ≤ 20) : Bd .f64 65 (phS f) := sinF_bd (fr_bd (bd_mono h (by omega)))

theorem quarters_is {f k : Nat} (hk : k ≤ 4) (h : ∀ i, i < k → big4 (qit f i) = true) (he : big4 (qit f k) = false) : quarters f = k := by
  have : k = 0 ∨ k = 1 ∨ k = 2 ∨ k = 3 ∨ k = 4 := by omega
  unfold quarters
  rcases this with rfl | rfl | rfl | rfl | rfl
  · rw [if_neg (by rw [show big4 f = false from he]; decide)]
  · rw [if_pos (show big4 f = true from h 0 (by decide)), if_neg (by rw [he]; decide)]
  · rw [if_pos (show big4 f = true from h 0 (by decide)), if_pos (h 1 (by decide)), if_neg (by rw [he]; decide)]
  · rw [if_pos (show big4 f = true from h 0 (by decide)), if_pos (h 1 (by decide)), if_pos (h 2 (by decide)), if_neg (by rw [he]; decide)]
  · rw [if_pos (show big4 f = true from h 0 (by decide)), if_pos (h 1 (by decide)), if_pos (h 2 (by decide)), if_pos (h 3 (by decide))]
theorem far_of_bd {x : Nat} (h : Bd .f64 20 x) : far x = false := by
  obtain ⟨s, m, e, hd, hl⟩ := h
  rw [(far_parts hd).1]
  refine decide_eq_false ?_
  intro hh
  by_cases h0 : m = 0
  · subst h0
    rw [Nat.zero_mul] at hh
    have := Nat.mul_pos (show 0 < 4503599627370496 by decide) (Nat.two_pow_pos ((0 : Int) - min e 0).toNat)
    omega
  · have he : e ≤ 20 := by
      rcases Int.lt_or_le 20 e with h1 | h1
      · exact absurd (hl.2 h1) h0
      · exact h1
    have h1 := Nat.mul_le_mul_right (2 ^ (e - min e 0).toNat) hl.1
    rw [← Nat.pow_add] at h1
    have h2 : 2 ^ ((20 - e).toNat + (e - min e 0).toNat) < 4503599627370496 * 2 ^ (0 - min e 0).toNat := by
      rw [show (4503599627370496 : Nat) = 2 ^ 52 by decide, ← Nat.pow_add]
      exact Nat.pow_lt_pow_right (by decide) (by omega)
    omega

/-- what the walk of a phasor needs behind its quarters -/
structure PhaFacts (g : Nat) : Prop where
  bg : Bd .f64 52 g
  gf : far g = false
  s1 : ∀ w, fopV .sub .f64 4598175219545276416 g w = fop .sub .f64 4598175219545276416 g
  s2 : fopN .sub .f64 4598175219545276416 g = 0
  bd : Bd .f64 52 (fop .sub .f64 4598175219545276416 g)
  df : far (fop .sub .f64 4598175219545276416 g) = false
  c1 : ∀ w, fopV .sub .f64 0 (phC g) w = opp (phC g)
  c2 : fopN .sub .f64 0 (phC g) = 0
  t1 : ∀ w, fopV .sub .f64 0 (phS g) w = opp (phS g)
  t2 : fopN .sub .f64 0 (phS g) = 0
  nc1 : ∀ w, narrowV (phC g) w = narrow (phC g)
  nc2 : narrowN (phC g) = 0
  ns1 : ∀ w, narrowV (phS g) w = narrow (phS g)
  ns2 : narrowN (phS g) = 0
  oc1 : ∀ w, narrowV (opp (phC g)) w = narrow (opp (phC g))
  oc2 : narrowN (opp (phC g)) = 0
  os1 : ∀ w, narrowV (opp (phS g)) w = narrow (opp (phS g))
  os2 : narrowN (opp (phS g)) = 0
theorem phaFacts {g : Nat} {j : Int} (h : Bd .f64 j g) (h0 : 0 ≤ j) (h1 : j ≤ 10) : PhaFacts g where
  bg := bd_mono h (by omega)
  gf := far_of_bd (bd_mono h (by omega))
  s1 := (q25_sure h h0 (by omega)).2.1
  s2 := (q25_sure h h0 (by omega)).2.2
  bd := (q25_sure h h0 (by omega)).1
  df := far_of_bd (bd_mono (bd_sub fmt64 (bd_mono bd_quarter h0) h (by omega) (by omega)) (by omega))
  c1 := (bd_sure (opp_bd (phC_bd h h0 (by omega)))).1
  c2 := (bd_sure (opp_bd (phC_bd h h0 (by omega)))).2
  t1 := (bd_sure (opp_bd (phS_bd h (by omega)))).1
  t2 := (bd_sure (opp_bd (phS_bd h (by omega)))).2
  nc1 := (narrow_bd_sure (phC_bd h h0 (by omega)) (by decide) (by decide)).1
  nc2 := (narrow_bd_sure (phC_bd h h0 (by omega)) (by decide) (by decide)).2
  ns1 := (narrow_bd_sure (phS_bd h (by omega)) (by decide) (by decide)).1
  ns2 := (narrow_bd_sure (phS_bd h (by omega)) (by decide) (by decide)).2
  oc1 := (narrow_bd_sure (opp_bd (phC_bd h h0 (by omega))) (by decide) (by decide)).1
  oc2 := (narrow_bd_sure (opp_bd (phC_bd h h0 (by omega))) (by decide) (by decide)).2
  os1 := (narrow_bd_sure (opp_bd (phS_bd h (by omega))) (by decide) (by decide)).1
  os2 := (narrow_bd_sure (opp_bd (phS_bd h (by omega))) (by decide) (by decide)).2

end Go.Proofs.Ytpmjikchlofebaa
