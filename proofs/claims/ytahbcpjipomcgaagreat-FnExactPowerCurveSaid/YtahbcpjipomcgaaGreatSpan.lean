/- Where an angle lies among knots: the plain mathematics. No statement is proved here. -/
import Derived.Test.YtahbcpjipomcgaaGreatVal
import Derived.Test.YtahbcpjipomcgaaGreatWrap
import Derived.Test.YtahbcpjipomcgaaGreatArea
import Derived.Test.YtahbcpjipomcgaaGreatKey
namespace Go.Proofs.YtahbcpjipomcgaaGreat
open Go Go.RowKit

/-! ## numbers from -0.5 to 0.5 -/
theorem fin_half : fin .f32 1056964608 = true ∧ fin .f32 3204448256 = true := by constructor <;> decide +kernel
theorem fin_geq {x c : Nat} (h : geq32 x c = true) : isn .f32 x = false := by
  cases hn : isn .f32 x
  · rfl
  · unfold geq32 at h; rw [order_nan_left hn] at h; cases h
theorem within_fin {x : Nat} (h : within x 3204448256 1056964608 = true) : fin .f32 x = true := by
  unfold within at h
  rw [Bool.and_eq_true] at h
  have hn := fin_geq h.1
  cases hd : FloatKind.f32.decode x with
  | nan s f => unfold isn at hn; rw [hd] at hn; cases hn
  | number s m e => unfold fin; rw [hd]
  | infinity s =>
    exfalso
    have d1 : FloatKind.f32.format.read x = .infinity s := hd
    have d2 : FloatKind.f32.format.read 3204448256 = .number true 8388608 (-24) := by decide +kernel
    have d3 : FloatKind.f32.format.read 1056964608 = .number false 8388608 (-24) := by decide +kernel
    unfold geq32 leq32 Ieee.Format.order at h
    rw [d1, d2, d3] at h
    cases s <;> simp [Ieee.Datum.order] at h
theorem key_half : key 1056964608 = 2 ^ 148 ∧ key 3204448256 = - 2 ^ 148 := by constructor <;> decide +kernel
theorem within_key {x : Nat} (h : within x 3204448256 1056964608 = true) : - 2 ^ 148 ≤ key x ∧ key x ≤ 2 ^ 148 := by
  have hf := within_fin h
  unfold within geq32 at h
  rw [Bool.and_eq_true, order_key hf fin_half.2, cmp_gt, cmp_eq, leq_key hf fin_half.1, key_half.1, key_half.2] at h
  simp only [Bool.or_eq_true, decide_eq_true_eq] at h
  omega
/-- what lies there is bounded -/
theorem key_bd {x : Nat} (hf : fin .f32 x = true) (h1 : - 2 ^ 148 ≤ key x) (h2 : key x ≤ 2 ^ 148) : Bd .f32 (-1) x := by
  cases hd : FloatKind.f32.decode x with
  | nan s f => unfold fin at hf; rw [hd] at hf; cases hf
  | infinity s => unfold fin at hf; rw [hd] at hf; cases hf
  | number s m e =>
    obtain ⟨-, he, -⟩ := f32_number hd
    refine ⟨s, m, e, hd, ?_⟩
    have hk : key x = Ieee.signed s m (e + 149).toNat := by unfold key; rw [hd]
    rw [hk] at h1 h2
    unfold Ieee.signed at h1 h2
    rw [Nat.shiftLeft_eq] at h1 h2
    have hb : m * 2 ^ (e + 149).toNat ≤ 2 ^ 148 := by
      have e148 : ((2 : Nat) ^ 148 : Int) = 2 ^ 148 := by norm_cast
      generalize m * 2 ^ (e + 149).toNat = A at *
      have : (A : Int) ≤ 2 ^ 148 := by
        cases s
        · simpa using h2
        · simp at h1; omega
      have e3 : ((2 ^ 148 : Nat) : Int) = (2 : Int) ^ 148 := by norm_cast
      omega
    by_cases he1 : e ≤ -1
    · refine ⟨?_, fun h => by omega⟩
      have e2 : 2 ^ 148 = 2 ^ (-1 - e).toNat * 2 ^ (e + 149).toNat := by rw [← Nat.pow_add]; exact congrArg (fun x => 2 ^ x) (by omega)
      rw [e2] at hb
      exact Nat.le_of_mul_le_mul_right hb (Nat.two_pow_pos _)
    · have hm : m = 0 := by
        rcases Nat.eq_zero_or_pos m with h | h
        · exact h
        · exfalso
          have : 2 ^ 149 ≤ m * 2 ^ (e + 149).toNat := Nat.le_trans (Nat.pow_le_pow_right (by decide) (by omega)) (Nat.le_mul_of_pos_left _ h)
          have : (2 : Nat) ^ 148 < 2 ^ 149 := by decide
          omega
      rw [hm]; exact le2_zero _ _

/-! ## the knots of a valid profile -/
theorem angs_at {xs : List Nat} {n : Nat} (h : angs xs n = true) : ∀ j, j < n → angStep xs j = true := by
  induction n with
  | zero => intro j hj; omega
  | succ n ih =>
    intro j hj
    simp only [angs, Bool.and_eq_true] at h
    by_cases e : j = n
    · rw [e]; exact h.2
    · exact ih h.1 j (by omega)
theorem ang_within {xs : List Nat} {n j : Nat} (h : angs xs n = true) (hj : j < n) : within (xs.getD j 0) 3204448256 1056964608 = true := by
  have := angs_at h j hj
  unfold angStep at this
  rw [Bool.and_eq_true] at this
  exact this.1
theorem ang_up {xs : List Nat} {n j : Nat} (h : angs xs n = true) (hj : j + 1 < n) : key (xs.getD j 0) < key (xs.getD (j + 1) 0) := by
  have := angs_at h (j + 1) hj
  unfold angStep at this
  rw [Bool.and_eq_true] at this
  have h2 := this.2
  have f1 := within_fin (ang_within h (show j < n by omega))
  have f2 := within_fin (ang_within h hj)
  rw [show j + 1 - 1 = j by omega, leq_key f2 f1] at h2
  simp at h2
  exact h2
theorem ang_lt {xs : List Nat} {n : Nat} (h : angs xs n = true) : ∀ d i, i + d + 1 < n → key (xs.getD i 0) < key (xs.getD (i + d + 1) 0)
  | 0, i, hi => ang_up h hi
  | d + 1, i, hi => Int.lt_trans (ang_lt h d i (by omega)) (by have := ang_up h (j := i + d + 1) (by omega); simpa [Nat.add_assoc] using this)
theorem ang_lt' {xs : List Nat} {n i j : Nat} (h : angs xs n = true) (hij : i < j) (hj : j < n) : key (xs.getD i 0) < key (xs.getD j 0) := by
  have := ang_lt h (j - i - 1) i (by omega)
  rw [show i + (j - i - 1) + 1 = j by omega] at this
  exact this

/-- how many angles, from the first one on, are not greater than t -/
def spC (a : List Nat) (t : Nat) : Nat → Nat
  | 0 => 0
  | k + 1 => if spC a t k = k ∧ leq32 (a.getD k 0) t = true then k + 1 else spC a t k
theorem spC_le (a : List Nat) (t : Nat) : ∀ k, spC a t k ≤ k
  | 0 => Nat.le_refl _
  | k + 1 => by
    unfold spC; split
    · exact Nat.le_refl _
    · exact Nat.le_succ_of_le (spC_le a t k)
theorem spC_hit (a : List Nat) (t : Nat) : ∀ k j, j < spC a t k → leq32 (a.getD j 0) t = true
  | 0, j, h => by simp [spC] at h
  | k + 1, j, h => by
    unfold spC at h
    split at h
    · rename_i hc
      by_cases e : j = k
      · rw [e]; exact hc.2
      · exact spC_hit a t k j (by rw [hc.1]; omega)
    · exact spC_hit a t k j h
theorem spC_miss (a : List Nat) (t : Nat) : ∀ k, spC a t k < k → leq32 (a.getD (spC a t k) 0) t = false
  | 0, h => by simp [spC] at h
  | k + 1, h => by
    unfold spC at h ⊢
    split at h
    · omega
    · rename_i hc
      rw [if_neg hc]
      by_cases e : spC a t k = k
      · rw [e]
        cases hl : leq32 (a.getD k 0) t
        · rfl
        · exact absurd ⟨e, hl⟩ hc
      · exact spC_miss a t k (by have := spC_le a t k; omega)
/-- the count is known by its two sides -/
theorem spC_is {a : List Nat} {t n c : Nat} (hc : c ≤ n) (h1 : ∀ j, j < c → leq32 (a.getD j 0) t = true) (h2 : c < n → leq32 (a.getD c 0) t = false) : spC a t n = c := by
  rcases Nat.lt_trichotomy (spC a t n) c with h | h | h
  · have := spC_miss a t n (by omega)
    rw [h1 _ h] at this; cases this
  · exact h
  · have := spC_hit a t n c h
    rw [h2 (by have := spC_le a t n; omega)] at this; cases this
theorem spC_beyond {a : List Nat} {t n : Nat} (h : angs a n = true) (ht : fin .f32 t = true) : ∀ j, spC a t n ≤ j → j < n → gtr32 (a.getD j 0) t = true := by
  intro j hj hn
  have hm := spC_miss a t n (by omega)
  have f1 := within_fin (ang_within h (show spC a t n < n by omega))
  have f2 := within_fin (ang_within h hn)
  rw [leq_key f1 ht] at hm
  rw [gtr_key f2 ht]
  have hm' : key t < key (a.getD (spC a t n) 0) := by simpa using hm
  refine decide_eq_true ?_
  by_cases e : j = spC a t n
  · rw [e]; exact hm'
  · exact Int.lt_trans hm' (ang_lt' h (by omega) hn)

/-! ## the parts of the circle -/
def spI (a : List Nat) (c : Nat) : Nat := if c = 0 then a.length - 1 else c - 1
def spJ (a : List Nat) (c : Nat) : Nat := if c = 0 then 0 else if c = a.length then 0 else c
def spLo (a : List Nat) (c : Nat) : Nat := if c = 0 then fop .sub .f32 (a.getD (a.length - 1) 0) 1065353216 else a.getD (c - 1) 0
def spHi (a : List Nat) (c : Nat) : Nat := if c = 0 then a.getD 0 0 else if c = a.length then fop .add .f32 (a.getD 0 0) 1065353216 else a.getD c 0
def spD (lo hi : Nat) : Nat := fop .sub .f32 hi lo
def spZ (lo hi : Nat) : Bool := FloatKind.f32.format.order (spD lo hi) 0 == some .eq
def spF (lo hi t : Nat) : Nat := if spZ lo hi then 0 else fop .quo .f32 (fop .sub .f32 t lo) (spD lo hi)
theorem sp_zero (a : List Nat) : spI a 0 = a.length - 1 ∧ spJ a 0 = 0 ∧ spLo a 0 = fop .sub .f32 (a.getD (a.length - 1) 0) 1065353216 ∧ spHi a 0 = a.getD 0 0 := ⟨rfl, rfl, rfl, rfl⟩
theorem sp_all {a : List Nat} (h : 2 ≤ a.length) : spI a a.length = a.length - 1 ∧ spJ a a.length = 0 ∧ spLo a a.length = a.getD (a.length - 1) 0 ∧ spHi a a.length = fop .add .f32 (a.getD 0 0) 1065353216 := by
  have h0 : ¬ a.length = 0 := by omega
  unfold spI spJ spLo spHi
  simp only [if_neg h0, if_true, and_self]
theorem sp_mid {a : List Nat} {c : Nat} (h : 0 < c) (hc : c < a.length) : spI a c = c - 1 ∧ spJ a c = c ∧ spLo a c = a.getD (c - 1) 0 ∧ spHi a c = a.getD c 0 := by
  have h0 : ¬ c = 0 := by omega
  have h1 : ¬ c = a.length := by omega
  unfold spI spJ spLo spHi
  simp only [if_neg h0, if_neg h1, and_self]
theorem bd_one32 : Bd .f32 0 1065353216 := ⟨false, 8388608, -23, by decide +kernel, by unfold Le2; decide⟩
theorem spLo_bd {a : List Nat} {c n : Nat} (hn : n = a.length) (h : angs a n = true) (h2 : 2 ≤ n) (hc : c ≤ n) : Bd .f32 1 (spLo a c) := by
  have hb : ∀ j, j < n → Bd .f32 (-1) (a.getD j 0) := fun j hj => key_bd (within_fin (ang_within h hj)) (within_key (ang_within h hj)).1 (within_key (ang_within h hj)).2
  unfold spLo
  split
  · exact bd_sub fmt32 (bd_mono (hb _ (by omega)) (by decide)) bd_one32 (by decide) (by decide)
  · exact bd_mono (hb _ (by omega)) (by decide)
theorem spHi_bd {a : List Nat} {c n : Nat} (hn : n = a.length) (h : angs a n = true) (h2 : 2 ≤ n) (hc : c ≤ n) : Bd .f32 1 (spHi a c) := by
  have hb : ∀ j, j < n → Bd .f32 (-1) (a.getD j 0) := fun j hj => key_bd (within_fin (ang_within h hj)) (within_key (ang_within h hj)).1 (within_key (ang_within h hj)).2
  unfold spHi
  split
  · exact bd_mono (hb _ (by omega)) (by decide)
  · split
    · exact bd_add fmt32 (bd_mono (hb _ (by omega)) (by decide)) bd_one32 (by decide) (by decide)
    · exact bd_mono (hb _ (by omega)) (by decide)

theorem quo_num {k : FloatKind} {x y : Nat} (hx : fin k x = true) (hy : fin k y = true) (hz : k.format.order y 0 ≠ some .eq) : isn k (fop .quo k x y) = false := by
  cases h1 : k.decode x with
  | nan s f => unfold fin at hx; rw [h1] at hx; cases hx
  | infinity s => unfold fin at hx; rw [h1] at hx; cases hx
  | number s m i =>
    cases h2 : k.decode y with
    | nan s f => unfold fin at hy; rw [h2] at hy; cases hy
    | infinity s => unfold fin at hy; rw [h2] at hy; cases hy
    | number t n j =>
      have hn : n ≠ 0 := by
        rintro rfl
        refine hz ?_
        have d0 : ∃ e, k.decode 0 = .number false 0 e := by
          cases k
          · exact ⟨-149, by decide +kernel⟩
          · exact ⟨-1074, by decide +kernel⟩
        obtain ⟨e, d0⟩ := d0
        rw [order_numbers h2 d0]
        have : ∀ s u, Ieee.signed s 0 u = 0 := by intro s u; unfold Ieee.signed; cases s <;> simp
        rw [this, this]; rfl
      have d1 : k.format.read x = .number s m i := h1
      have d2 : k.format.read y = .number t n j := h2
      have e : ∃ s' m' e', floatBits .quo k x y = some (k.encode (.number s' m' e')) := by
        unfold floatBits Ieee.Format.div
        rw [d1, d2]
        simp only [Ieee.Datum.quotient, if_neg hn]
        exact ⟨_, _, _, rfl⟩
      obtain ⟨s', m', e', e⟩ := e
      unfold fop
      rw [e, Option.getD_some, isn_canon]
      exact isn_encode rfl

/-- what the walk is told of a part of the circle -/
structure SpanFacts (lo hi t : Nat) : Prop where
  d1 : ∀ w, fopV .sub .f32 hi lo w = spD lo hi
  d2 : fopN .sub .f32 hi lo = 0
  t1 : ∀ w, fopV .sub .f32 t lo w = fop .sub .f32 t lo
  t2 : fopN .sub .f32 t lo = 0
theorem spanFacts {lo hi t : Nat} (hl : Bd .f32 1 lo) (hh : Bd .f32 1 hi) (ht : Bd .f32 66 t) : SpanFacts lo hi t := by
  have d := bd_sure (op := .sub) (k := .f32) (x := hi) (y := lo) (bd_sub fmt32 hh hl (by decide) (by decide))
  have t' := bd_sure (op := .sub) (k := .f32) (x := t) (y := lo) (bd_sub fmt32 ht (bd_mono hl (by decide)) (by decide) (by decide))
  exact ⟨d.1, d.2, t'.1, t'.2⟩
theorem span_quo {lo hi t : Nat} (hl : Bd .f32 1 lo) (hh : Bd .f32 1 hi) (ht : Bd .f32 66 t) (hz : spZ lo hi = false) :
    (∀ w, fopV .quo .f32 (fop .sub .f32 t lo) (spD lo hi) w = spF lo hi t) ∧ fopN .quo .f32 (fop .sub .f32 t lo) (spD lo hi) = 0 := by
  have hq : isn .f32 (fop .quo .f32 (fop .sub .f32 t lo) (spD lo hi)) = false :=
    quo_num (bd_fin (bd_sub fmt32 ht (bd_mono hl (by decide)) (by decide) (by decide))) (bd_fin (bd_sub fmt32 hh hl (by decide) (by decide))) (fun e => by unfold spZ at hz; rw [e] at hz; cases hz)
  have := fop_sure hq
  unfold spF
  rw [hz]
  exact this
end Go.Proofs.YtahbcpjipomcgaaGreat
