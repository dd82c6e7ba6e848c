/- The mathematics of angles: bounds through rounding. No statement is proved here. -/
import Derived.Test.YtpmjikchlofebaaSin
namespace Go.Proofs.Ytpmjikchlofebaa
open Go Go.RowKit

theorem cut_ge {n N drop : Nat} (neg : Bool) (h : N * 2 ^ drop ≤ n) : N ≤ Ieee.Toward.even.cut neg n drop := by
  unfold Ieee.Toward.cut
  simp only [Nat.one_shiftLeft]
  refine Nat.le_trans ?_ (Nat.le_add_right _ _)
  by_cases hd : drop ≤ n.log2 + 2
  · rw [Nat.min_eq_left hd, Nat.le_div_iff_mul_le (Nat.two_pow_pos _)]; exact h
  · rcases Nat.eq_zero_or_pos N with hN | hN
    · rw [hN]; exact Nat.zero_le _
    · exfalso
      have h1 : n < 2 ^ (n.log2 + 1) := Nat.lt_log2_self
      have h2 : 2 ^ (n.log2 + 1) ≤ 2 ^ drop := Nat.pow_le_pow_right (by decide) (by omega)
      have h3 := Nat.le_mul_of_pos_left (2 ^ drop) hN
      omega

theorem ge2_log {m : Nat} {e k : Int} (h : Ge2 m e k) : k ≤ e + m.log2 := by
  obtain ⟨h1, h0⟩ := h
  have hm : m < 2 ^ (m.log2 + 1) := Nat.lt_log2_self
  rcases Int.lt_or_le (e + m.log2) k with hh | hh
  · exfalso
    by_cases hke : e ≤ k
    · rw [show (e - k).toNat = 0 by omega, Nat.pow_zero, Nat.mul_one] at h1
      have h2 : 2 ^ (m.log2 + 1) ≤ 2 ^ (k - e).toNat := Nat.pow_le_pow_right (by decide) (by omega)
      omega
    · omega
  · exact hh

/-- what is written of a number that is at least '2 ^ k' is at least '2 ^ k' -/
theorem write_ge {f : Ieee.Format} {p : Nat} {L top : Int} (F : Fmt f p L top) {s : Bool} {m : Nat} {e k : Int} (h : Ge2 m e k) (hlo : L + p + 1 ≤ k) (htop : L + p ≤ top) {t : Bool} {m' : Nat} {e' : Int}
    (hr : f.read (f.write (.number s m e)) = .number t m' e') : Ge2 m' e' k := by
  have hk := ge2_log h
  obtain ⟨-, h0⟩ := h
  have hle : 2 ^ m.log2 ≤ m := Nat.log2_self_le h0
  have hr' : f.read (f.nearest s m e) = .number t m' e' := hr
  unfold Ieee.Format.nearest at hr'
  rw [if_neg h0] at hr'
  simp only [F.frac, F.least, F.bin] at hr'
  generalize m.log2 = l at *
  rw [show max (e + (l : Int) - (p : Int)) L = e + l - p by omega] at hr'
  have hcut : 2 ^ p ≤ Ieee.Toward.even.cut s (m <<< (e - (e + (l : Int) - (p : Int))).toNat) ((e + (l : Int) - (p : Int)) - e).toNat := by
    refine cut_ge s ?_
    rw [Nat.shiftLeft_eq, ← Nat.pow_add]
    calc 2 ^ (p + (e + (l : Int) - (p : Int) - e).toNat) ≤ 2 ^ (l + (e - (e + (l : Int) - (p : Int))).toNat) := Nat.pow_le_pow_right (by decide) (by omega)
      _ = 2 ^ l * 2 ^ (e - (e + (l : Int) - (p : Int))).toNat := Nat.pow_add ..
      _ ≤ _ := Nat.mul_le_mul_right _ hle
  generalize Ieee.Toward.even.cut s (m <<< (e - (e + (l : Int) - (p : Int))).toNat) ((e + (l : Int) - (p : Int)) - e).toNat = kept at hcut hr'
  have hp0 : 0 < 2 ^ p := Nat.two_pow_pos p
  have hrung : (k - L - p + 1).toNat * 2 ^ p ≤ (e + (l : Int) - (p : Int) - L).toNat * 2 ^ p + kept := by
    have e1 : (k - L - p + 1).toNat ≤ (e + (l : Int) - (p : Int) - L).toNat + 1 := by omega
    have := Nat.mul_le_mul_right (2 ^ p) e1
    rw [Nat.add_mul] at this
    omega
  have hi := f.infRung_lt
  have hmin : ∀ r : Nat, f.read (f.word s r) = .number t m' e' → r < f.signWeight → (k - L - p + 1).toNat * 2 ^ p ≤ r → Ge2 m' e' k := by
    intro r hh hr2 hr3
    have hmod : f.word s r % f.signWeight = r := by
      unfold Ieee.Format.word; split
      · rw [Nat.add_mod_left, Nat.mod_eq_of_lt hr2]
      · rw [Nat.mod_eq_of_lt hr2]
    have hq : (k - L - p + 1).toNat ≤ r / 2 ^ p := by rw [Nat.le_div_iff_mul_le hp0]; exact hr3
    have hbig : ¬ r < 2 ^ p := by
      have e1 : 1 ≤ (k - L - p + 1).toNat := by omega
      have := Nat.mul_le_mul_right (2 ^ p) e1
      omega
    unfold Ieee.Format.read at hh
    simp only [hmod, F.bin, F.least, if_neg hbig] at hh
    split at hh
    · simp only [Ieee.Datum.number.injEq] at hh
      obtain ⟨-, rfl, rfl⟩ := hh
      refine ⟨?_, by omega⟩
      by_cases hc : k ≤ L + ((r / 2 ^ p - 1 : Nat) : Int)
      · rw [show (k - (L + ((r / 2 ^ p - 1 : Nat) : Int))).toNat = 0 by omega, Nat.pow_zero]
        have := Nat.two_pow_pos (L + ((r / 2 ^ p - 1 : Nat) : Int) - k).toNat
        have h2 : 1 ≤ 2 ^ p + r % 2 ^ p := by omega
        exact Nat.mul_le_mul h2 this
      · rw [show (L + ((r / 2 ^ p - 1 : Nat) : Int) - k).toNat = 0 by omega, Nat.pow_zero, Nat.mul_one]
        have : 2 ^ (k - (L + ((r / 2 ^ p - 1 : Nat) : Int))).toNat ≤ 2 ^ p := Nat.pow_le_pow_right (by decide) (by omega)
        omega
    · split at hh <;> cases hh
  rcases Nat.le_total ((e + (l : Int) - (p : Int) - L).toNat * 2 ^ p + kept) f.infRung with hc | hc
  · rw [Nat.min_eq_left hc] at hr'
    exact hmin _ hr' (by omega) hrung
  · rw [Nat.min_eq_right hc] at hr'
    exfalso
    have hmod : f.word s f.infRung % f.signWeight = f.infRung := by
      unfold Ieee.Format.word; split
      · rw [Nat.add_mod_left, Nat.mod_eq_of_lt hi]
      · rw [Nat.mod_eq_of_lt hi]
    unfold Ieee.Format.read at hr'
    simp only [hmod] at hr'
    have hb : ¬ f.infRung < f.binade := by
      have e1 : 1 ≤ (top - L - p + 1).toNat := by omega
      have e2 := Nat.mul_le_mul_right (2 ^ p) e1
      have := F.inf (2 ^ p) (by omega)
      rw [F.bin]
      omega
    rw [if_neg hb] at hr'
    simp at hr'


section
variable {k : FloatKind} {p : Nat} {L top : Int} (F : Fmt k.format p L top)
include F
theorem bdp_mul {a c : Int} {x y : Nat} (hx : BdP k a x) (hy : BdP k c y) (hlo : L + p + 1 ≤ a + c) (hhi : a + c ≤ top) : BdP k (a + c) (fop .mul k x y) := by
  obtain ⟨m, i, hd, hl⟩ := hx
  obtain ⟨n, j, hd', hl'⟩ := hy
  have hb := bdp_write F (le2_mul hl hl') hlo hhi
  have e : floatBits .mul k x y = some (k.encode (.number false (m * n) (i + j))) := by
    unfold floatBits Ieee.Format.mul
    have d1 : k.format.read x = .number false m i := hd
    have d2 : k.format.read y = .number false n j := hd'
    rw [d1, d2]; rfl
  unfold fop
  rw [e, Option.getD_some, bd_canon (bdp_bd hb)]; exact hb
theorem bdp_add {a c : Int} {x y : Nat} (hx : BdP k a x) (hy : BdP k a y) (hlo : L + p + 1 ≤ c) (hca : c ≤ a + 1) (hhi : a + 1 ≤ top) (hg : Bg k c x) : BdP k (a + 1) (fop .add k x y) ∧ Bg k c (fop .add k x y) := by
  obtain ⟨m, i, hd, hl⟩ := hx
  obtain ⟨n, j, hd', hl'⟩ := hy
  have d1 : k.format.read x = .number false m i := hd
  have d2 : k.format.read y = .number false n j := hd'
  obtain ⟨s2, m2, i2, hd2, hge⟩ := hg
  have dd : k.format.read x = .number s2 m2 i2 := hd2
  rw [d1] at dd
  simp only [Ieee.Datum.number.injEq] at dd
  obtain ⟨-, rfl, rfl⟩ := dd
  -- the sum, exactly
  have hsum : (Ieee.Datum.number false m i).sum (.number false n j) = some (.number false (m * 2 ^ (i - min i j).toNat + n * 2 ^ (j - min i j).toNat) (min i j)) := by
    simp only [Ieee.Datum.sum, Ieee.signed, Bool.false_eq_true, if_false, Nat.shiftLeft_eq, Bool.and_self]
    generalize m * 2 ^ (i - min i j).toNat = A
    generalize n * 2 ^ (j - min i j).toNat = B
    have e1 : (if (A : Int) + (B : Int) = 0 then false else decide ((A : Int) + (B : Int) < 0)) = false := by
      split
      · rfl
      · exact decide_eq_false (by omega)
    have e2 : ((A : Int) + (B : Int)).natAbs = A + B := by omega
    rw [e1, e2]
  generalize hbase : min i j = base at hsum
  have hA := le2_down hl (base := base) (by omega)
  have hB := le2_down hl' (base := base) (by omega)
  rw [Nat.shiftLeft_eq] at hA hB
  have hle := le2_add hA hB (Nat.le_refl _)
  have hgs : Ge2 (m * 2 ^ (i - base).toNat + n * 2 ^ (j - base).toNat) base c := by
    obtain ⟨g1, g0⟩ := hge
    have hp1 := Nat.two_pow_pos (i - base).toNat
    refine ⟨?_, by have := Nat.mul_pos (Nat.pos_of_ne_zero g0) hp1; omega⟩
    refine Nat.le_trans (m := m * 2 ^ (i - base).toNat * 2 ^ (base - c).toNat) ?_ (Nat.mul_le_mul_right _ (Nat.le_add_right _ _))
    rw [Nat.mul_assoc, ← Nat.pow_add]
    by_cases hic : i ≤ c
    · rw [show (i - c).toNat = 0 by omega, Nat.pow_zero, Nat.mul_one] at g1
      have h1 := Nat.mul_le_mul_right (2 ^ (i - base).toNat) g1
      rw [← Nat.pow_add] at h1
      rw [show (base - c).toNat = 0 by omega, Nat.add_zero]
      refine Nat.le_trans (Nat.le_of_eq ?_) h1
      exact congrArg (fun x => 2 ^ x) (by omega)
    · refine Nat.le_trans ?_ (Nat.le_mul_of_pos_left _ (Nat.pos_of_ne_zero g0))
      exact Nat.pow_le_pow_right (by decide) (by omega)
  have hb := bdp_write F hle (by omega) hhi
  have hgw : Bg k c (k.encode (.number false (m * 2 ^ (i - base).toNat + n * 2 ^ (j - base).toNat) base)) := by
    obtain ⟨m', e', hd3, -⟩ := hb
    exact ⟨false, m', e', hd3, write_ge F hgs hlo (by omega) hd3⟩
  have e : floatBits .add k x y = some (k.encode (.number false (m * 2 ^ (i - base).toNat + n * 2 ^ (j - base).toNat) base)) := by
    unfold floatBits Ieee.Format.add
    rw [d1, d2]
    exact congrArg (Option.map k.format.write) hsum
  unfold fop
  rw [e, Option.getD_some, bd_canon (bdp_bd hb)]; exact ⟨hb, hgw⟩
theorem bdp_quo {a c : Int} {x y : Nat} (hx : BdP k a x) (hy : BdP k top y) (hg : Bg k c y) (hlo : L + p + 1 ≤ a - c) (hhi : a - c ≤ top) : BdP k (a - c) (fop .quo k x y) := by
  have hq := bd_quo F (bdp_bd hx) hg hlo hhi
  obtain ⟨m, i, hd, hl⟩ := hx
  obtain ⟨n, j, hd', hl'⟩ := hy
  obtain ⟨s2, n2, j2, hd2, hge⟩ := hg
  have d1 : k.format.read x = .number false m i := hd
  have d2 : k.format.read y = .number false n j := hd'
  have dd : k.format.read y = .number s2 n2 j2 := hd2
  rw [d2] at dd
  simp only [Ieee.Datum.number.injEq] at dd
  obtain ⟨-, rfl, rfl⟩ := dd
  obtain ⟨M, E, e⟩ : ∃ M E, floatBits .quo k x y = some (k.encode (.number false M E)) := by
    unfold floatBits Ieee.Format.div
    rw [d1, d2]
    simp only [Ieee.Datum.quotient, if_neg hge.2]
    exact ⟨_, _, rfl⟩
  have hf : fop .quo k x y = k.encode (.number false M E) := by
    unfold fop
    rw [e, Option.getD_some, canon_of_not (isn_encode rfl)]
  rw [hf] at hq ⊢
  obtain ⟨s, m', e', h1, h2⟩ := hq
  have := read_write_neg (f := k.format) h1
  subst this
  exact ⟨m', e', h1, h2⟩
end

theorem sqrt_sure {j : Int} {x : Nat} (h : BdP .f64 (2 * j) x) (hlo : -1021 ≤ j) (hhi : j ≤ 1023) : (∀ w, fsqrtV x w = fsqrt x) ∧ fsqrtN x = 0 := by
  have h1 := (bdp_sqrt h hlo hhi).1
  unfold fsqrtV fsqrtN
  rw [h1]; exact ⟨fun _ => rfl, rfl⟩

theorem bdp_one : BdP .f64 0 4607182418800017408 := ⟨4503599627370496, -52, by decide +kernel, by unfold Le2; decide⟩
theorem bg_one : Bg .f64 0 4607182418800017408 := ⟨false, 4503599627370496, -52, by decide +kernel, by unfold Ge2; decide⟩

/-- half of an angle, by its tangent -/
def hvI (t : Nat) : Nat := fop .add .f64 4607182418800017408 (fop .mul .f64 t t)
def hvD (t : Nat) : Nat := fop .add .f64 4607182418800017408 (fsqrt (hvI t))
def hv (t : Nat) : Nat := fop .quo .f64 t (hvD t)
def hvs (t : Nat) : Nat → Nat
  | 0 => t
  | n + 1 => hv (hvs t n)

theorem hvI_bd {t : Nat} (h : BdP .f64 0 t) : BdP .f64 2 (hvI t) := by
  have h1 := bdp_mul fmt64 h h (by decide) (by decide)
  exact bdp_mono (bdp_add (c := 0) fmt64 bdp_one h1 (by decide) (by decide) (by decide) bg_one).1 (by decide)
theorem hvS_bd {t : Nat} (h : BdP .f64 0 t) : BdP .f64 1 (fsqrt (hvI t)) := (bdp_sqrt (j := 1) (hvI_bd h) (by decide) (by decide)).2
theorem hvD_bd {t : Nat} (h : BdP .f64 0 t) : BdP .f64 2 (hvD t) ∧ Bg .f64 0 (hvD t) :=
  bdp_add (c := 0) fmt64 (bdp_mono bdp_one (by decide)) (hvS_bd h) (by decide) (by decide) (by decide) bg_one
theorem hv_bd {t : Nat} (h : BdP .f64 0 t) : BdP .f64 0 (hv t) :=
  bdp_quo (a := 0) (c := 0) fmt64 h (bdp_mono (hvD_bd h).1 (by decide)) (hvD_bd h).2 (by decide) (by decide)
theorem hvs_bd {t : Nat} (h : BdP .f64 0 t) : ∀ n, BdP .f64 0 (hvs t n)
  | 0 => h
  | n + 1 => hv_bd (hvs_bd h n)

structure HvFacts (t : Nat) : Prop where
  m1 : ∀ w, fopV .mul .f64 t t w = fop .mul .f64 t t
  m2 : fopN .mul .f64 t t = 0
  i1 : ∀ w, fopV .add .f64 4607182418800017408 (fop .mul .f64 t t) w = hvI t
  i2 : fopN .add .f64 4607182418800017408 (fop .mul .f64 t t) = 0
  s1 : ∀ w, fsqrtV (hvI t) w = fsqrt (hvI t)
  s2 : fsqrtN (hvI t) = 0
  d1 : ∀ w, fopV .add .f64 4607182418800017408 (fsqrt (hvI t)) w = hvD t
  d2 : fopN .add .f64 4607182418800017408 (fsqrt (hvI t)) = 0
  q1 : ∀ w, fopV .quo .f64 t (hvD t) w = hv t
  q2 : fopN .quo .f64 t (hvD t) = 0
theorem hvFacts {t : Nat} (h : BdP .f64 0 t) : HvFacts t where
  m1 := (bd_sure (bdp_bd (bdp_mul fmt64 h h (by decide) (by decide)))).1
  m2 := (bd_sure (bdp_bd (bdp_mul fmt64 h h (by decide) (by decide)))).2
  i1 := (bd_sure (bdp_bd (hvI_bd h))).1
  i2 := (bd_sure (bdp_bd (hvI_bd h))).2
  s1 := (sqrt_sure (j := 1) (hvI_bd h) (by decide) (by decide)).1
  s2 := (sqrt_sure (j := 1) (hvI_bd h) (by decide) (by decide)).2
  d1 := (bd_sure (bdp_bd (hvD_bd h).1)).1
  d2 := (bd_sure (bdp_bd (hvD_bd h).1)).2
  q1 := (bd_sure (bdp_bd (hv_bd h))).1
  q2 := (bd_sure (bdp_bd (hv_bd h))).2

def oddN (j : Nat) : Int := 15 - 2 * j
theorem oddN_0 : oddN 0 = 15 := by decide
theorem oddN_1 : oddN 1 = 13 := by decide
theorem oddN_2 : oddN 2 = 11 := by decide
theorem oddN_3 : oddN 3 = 9 := by decide
theorem oddN_4 : oddN 4 = 7 := by decide
theorem oddN_5 : oddN 5 = 5 := by decide
theorem oddN_6 : oddN 6 = 3 := by decide
theorem oddN_7 : oddN 7 = 1 := by decide
/-- the row of an angle by its tangent -/
def arcs (u : Nat) : Nat → Nat
  | 0 => 0
  | j + 1 => fop .sub .f64 (fop .quo .f64 4607182418800017408 (floatOfInt .f64 (oddN j))) (fop .mul .f64 u (arcs u j))

theorem odd_bg : ∀ j : Nat, j < 8 → Bg .f64 0 (floatOfInt .f64 (oddN j)) := by
  intro j hj
  have : j = 0 ∨ j = 1 ∨ j = 2 ∨ j = 3 ∨ j = 4 ∨ j = 5 ∨ j = 6 ∨ j = 7 := by omega
  rcases this with rfl | rfl | rfl | rfl | rfl | rfl | rfl | rfl
  · exact ⟨false, 8444249301319680, -49, by decide +kernel, by unfold Ge2; decide⟩
  · exact ⟨false, 7318349394477056, -49, by decide +kernel, by unfold Ge2; decide⟩
  · exact ⟨false, 6192449487634432, -49, by decide +kernel, by unfold Ge2; decide⟩
  · exact ⟨false, 5066549580791808, -49, by decide +kernel, by unfold Ge2; decide⟩
  · exact ⟨false, 7881299347898368, -50, by decide +kernel, by unfold Ge2; decide⟩
  · exact ⟨false, 5629499534213120, -50, by decide +kernel, by unfold Ge2; decide⟩
  · exact ⟨false, 6755399441055744, -51, by decide +kernel, by unfold Ge2; decide⟩
  · exact bg_one

theorem bd_zero (j : Int) : Bd .f64 j 0 := ⟨false, 0, -1074, by decide +kernel, le2_zero _ _⟩
theorem arcs_parts {u : Nat} (hu : Bd .f64 0 u) {j : Nat} (hj : j < 8) (hp : Bd .f64 j (arcs u j)) :
    Bd .f64 0 (fop .quo .f64 4607182418800017408 (floatOfInt .f64 (oddN j))) ∧ Bd .f64 j (fop .mul .f64 u (arcs u j)) ∧ Bd .f64 (j + 1) (arcs u (j + 1)) := by
  have b1 := bd_quo fmt64 (a := 0) (c := 0) bd_one (odd_bg j hj) (by decide) (by decide)
  have b2 := bd_mul fmt64 hu hp (by omega) (by omega)
  rw [Int.zero_add] at b2
  exact ⟨b1, b2, bd_sub fmt64 (bd_mono b1 (by omega)) b2 (by omega) (by omega)⟩
theorem arcs_bd {u : Nat} (hu : Bd .f64 0 u) : ∀ j : Nat, j ≤ 8 → Bd .f64 j (arcs u j)
  | 0, _ => bd_zero _
  | j + 1, hj => by
    have := (arcs_parts hu (by omega) (arcs_bd hu j (by omega))).2.2
    exact_mod_cast this
theorem arcs_sure {u : Nat} (hu : Bd .f64 0 u) (j : Nat) (hj : j < 8) :
    ((∀ w, fopV .quo .f64 4607182418800017408 (floatOfInt .f64 (oddN j)) w = fop .quo .f64 4607182418800017408 (floatOfInt .f64 (oddN j))) ∧ fopN .quo .f64 4607182418800017408 (floatOfInt .f64 (oddN j)) = 0) ∧
    ((∀ w, fopV .mul .f64 u (arcs u j) w = fop .mul .f64 u (arcs u j)) ∧ fopN .mul .f64 u (arcs u j) = 0) ∧
    ((∀ w, fopV .sub .f64 (fop .quo .f64 4607182418800017408 (floatOfInt .f64 (oddN j))) (fop .mul .f64 u (arcs u j)) w = arcs u (j + 1)) ∧ fopN .sub .f64 (fop .quo .f64 4607182418800017408 (floatOfInt .f64 (oddN j))) (fop .mul .f64 u (arcs u j)) = 0) := by
  obtain ⟨a, b, c⟩ := arcs_parts hu hj (arcs_bd hu j (by omega))
  exact ⟨bd_sure a, bd_sure b, bd_sure c⟩

theorem bd_eight : Bd .f64 3 4620693217682128896 := ⟨false, 4503599627370496, -49, by decide +kernel, by unfold Le2; decide⟩
def tail1 (s : Nat) : Nat := fop .mul .f64 s (arcs (fop .mul .f64 s s) 8)
def tail2 (s : Nat) : Nat := fop .mul .f64 4620693217682128896 (tail1 s)
/-- the angle whose tangent is t, in turns -/
def tail3 (s : Nat) : Nat := fop .quo .f64 (tail2 s) 4618760256179416344
def flatA (t : Nat) : Nat := tail3 (hvs t 3)

theorem sq_bd {s : Nat} (h : BdP .f64 0 s) : Bd .f64 0 (fop .mul .f64 s s) := bdp_bd (bdp_mul fmt64 h h (by decide) (by decide))
theorem tail1_bd {s : Nat} (h : BdP .f64 0 s) : Bd .f64 8 (tail1 s) := bd_mul fmt64 (bdp_bd h) (arcs_bd (sq_bd h) 8 (by decide)) (by decide) (by decide)
theorem tail2_bd {s : Nat} (h : BdP .f64 0 s) : Bd .f64 11 (tail2 s) := bd_mul fmt64 bd_eight (tail1_bd h) (by decide) (by decide)
theorem tail3_bd {s : Nat} (h : BdP .f64 0 s) : Bd .f64 9 (tail3 s) := bd_quo fmt64 (tail2_bd h) bg_circle (by decide) (by decide)
theorem flatA_bd {t : Nat} (h : BdP .f64 0 t) : Bd .f64 9 (flatA t) := tail3_bd (hvs_bd h 3)

structure TailFacts (s : Nat) : Prop where
  m1 : ∀ w, fopV .mul .f64 s s w = fop .mul .f64 s s
  m2 : fopN .mul .f64 s s = 0
  t1 : ∀ w, fopV .mul .f64 s (arcs (fop .mul .f64 s s) 8) w = tail1 s
  t2 : fopN .mul .f64 s (arcs (fop .mul .f64 s s) 8) = 0
  u1 : ∀ w, fopV .mul .f64 4620693217682128896 (tail1 s) w = tail2 s
  u2 : fopN .mul .f64 4620693217682128896 (tail1 s) = 0
  v1 : ∀ w, fopV .quo .f64 (tail2 s) 4618760256179416344 w = tail3 s
  v2 : fopN .quo .f64 (tail2 s) 4618760256179416344 = 0
theorem tailFacts {s : Nat} (h : BdP .f64 0 s) : TailFacts s where
  m1 := (bd_sure (sq_bd h)).1
  m2 := (bd_sure (sq_bd h)).2
  t1 := (bd_sure (tail1_bd h)).1
  t2 := (bd_sure (tail1_bd h)).2
  u1 := (bd_sure (tail2_bd h)).1
  u2 := (bd_sure (tail2_bd h)).2
  v1 := (bd_sure (tail3_bd h)).1
  v2 := (bd_sure (tail3_bd h)).2


theorem quo_core {m n more T : Nat} (hp : 0 < n) (hkey : m * 2 ^ more * 2 ≤ n * 2 ^ T) : 2 * (m <<< more / n) + (m <<< more % n != 0).toNat ≤ 2 ^ T := by
  rw [Nat.shiftLeft_eq]
  generalize hD : m * 2 ^ more = D at hkey
  have hdm := Nat.div_add_mod D n
  have hlt := Nat.mod_lt D hp
  generalize D / n = q at hdm ⊢
  by_cases hr : D % n = 0
  · rw [hr]
    have hz : ((0 : Nat) != 0).toNat = 0 := rfl
    rw [hz, Nat.add_zero]
    rw [hr, Nat.add_zero] at hdm
    have : n * (2 * q) ≤ n * 2 ^ T := by rw [Nat.mul_left_comm, hdm]; omega
    exact Nat.le_of_mul_le_mul_left this hp
  · have hz : (D % n != 0).toNat = 1 := by
      have : (D % n != 0) = true := by simpa using hr
      rw [this]; rfl
    rw [hz]
    have : n * (2 * q) < n * 2 ^ T := by rw [Nat.mul_left_comm]; omega
    have := Nat.lt_of_mul_lt_mul_left this
    omega

/-- the quotient of a lesser number and a greater one is at most 1 -/
theorem quo_one {x y m n : Nat} {i j : Int} (hx : FloatKind.f64.decode x = .number false m i) (hy : FloatKind.f64.decode y = .number false n j) (hn : n ≠ 0)
    (hle : m * 2 ^ (i - min i j).toNat ≤ n * 2 ^ (j - min i j).toNat) : BdP .f64 0 (fop .quo .f64 x y) := by
  have d1 : FloatKind.f64.format.read x = .number false m i := hx
  have d2 : FloatKind.f64.format.read y = .number false n j := hy
  have e : floatBits .quo .f64 x y = some (FloatKind.f64.encode (.number false (2 * (m <<< (FloatKind.f64.format.fractionBits + 2 + n.log2 - m.log2) / n) + (m <<< (FloatKind.f64.format.fractionBits + 2 + n.log2 - m.log2) % n != 0).toNat) (i - j - ((FloatKind.f64.format.fractionBits + 2 + n.log2 - m.log2 : Nat) : Int) - 1))) := by
    unfold floatBits Ieee.Format.div
    rw [d1, d2]
    simp only [Ieee.Datum.quotient, if_neg hn]
    rfl
  rw [f64_frac] at e
  generalize hmore : 52 + 2 + n.log2 - m.log2 = more at e
  have hp : 0 < n := by omega
  have hl2 : Le2 (2 * (m <<< more / n) + (m <<< more % n != 0).toNat) (i - j - more - 1) 0 := by
    by_cases h0 : m = 0
    · subst h0; simp [le2_zero]
    · have hm1 : 2 ^ m.log2 ≤ m := Nat.log2_self_le h0
      have hn1 : n < 2 ^ (n.log2 + 1) := Nat.lt_log2_self
      generalize hb : min i j = b at hle
      have hlog : m.log2 + (i - b).toNat ≤ n.log2 + (j - b).toNat := by
        have e1 : 2 ^ (m.log2 + (i - b).toNat) < 2 ^ (n.log2 + 1 + (j - b).toNat) := by
          rw [Nat.pow_add, Nat.pow_add 2 (n.log2 + 1)]
          calc 2 ^ m.log2 * 2 ^ (i - b).toNat ≤ m * 2 ^ (i - b).toNat := Nat.mul_le_mul_right _ hm1
            _ ≤ n * 2 ^ (j - b).toNat := hle
            _ < 2 ^ (n.log2 + 1) * 2 ^ (j - b).toNat := Nat.mul_lt_mul_of_pos_right hn1 (Nat.two_pow_pos _)
        have := (Nat.pow_lt_pow_iff_right (a := 2) (by decide)).1 e1
        omega
      refine ⟨quo_core hp ?_, fun hh => by omega⟩
      refine Nat.le_of_mul_le_mul_right (c := 2 ^ (i - b).toNat) ?_ (Nat.two_pow_pos _)
      have e2 : m * 2 ^ more * 2 * 2 ^ (i - b).toNat = m * 2 ^ (i - b).toNat * 2 ^ (more + 1) := by
        rw [Nat.pow_succ, Nat.mul_assoc, Nat.mul_assoc, Nat.mul_assoc]
        congr 1
        rw [Nat.mul_comm (2 ^ (i - b).toNat)]
        rw [Nat.mul_assoc]
      have e3 : n * 2 ^ (0 - (i - j - (more : Int) - 1)).toNat * 2 ^ (i - b).toNat = n * 2 ^ (j - b).toNat * 2 ^ (more + 1) := by
        rw [Nat.mul_assoc, ← Nat.pow_add, Nat.mul_assoc, ← Nat.pow_add]
        exact congrArg (fun x => n * 2 ^ x) (by omega)
      rw [e2, e3]
      exact Nat.mul_le_mul_right _ hle
  have hb := bdp_write fmt64 hl2 (by decide) (by decide)
  unfold fop
  rw [e, Option.getD_some, bd_canon (bdp_bd hb)]; exact hb

/-- how a 32-bit number stands to 0 does not hang on its width -/
theorem order_wide_zero {b : Nat} (h : fin .f32 b = true) : FloatKind.f64.format.order (wide b) 0 = FloatKind.f32.format.order b 0 := by
  cases hd : FloatKind.f32.decode b with
  | nan s f => unfold fin at h; rw [hd] at h; cases h
  | infinity s => unfold fin at h; rw [hd] at h; cases h
  | number s m e =>
    obtain ⟨t, ht⟩ := wide_num hd
    have z64 : FloatKind.f64.decode 0 = .number false 0 (-1074) := by decide +kernel
    have z32 : FloatKind.f32.decode 0 = .number false 0 (-149) := by decide +kernel
    rw [order_numbers ht z64, order_numbers hd z32]
    have hp1 : 0 < 2 ^ (e - (t : Int) - min (e - (t : Int)) (-1074)).toNat := Nat.two_pow_pos _
    have hp2 : 0 < 2 ^ (e - min e (-149)).toNat := Nat.two_pow_pos _
    have hp3 : 0 < 2 ^ t := Nat.two_pow_pos _
    simp only [Ieee.signed, Nat.shiftLeft_eq, Nat.zero_mul, Bool.false_eq_true, if_false]
    generalize 2 ^ (e - (t : Int) - min (e - (t : Int)) (-1074)).toNat = B at *
    generalize 2 ^ (e - min e (-149)).toNat = C at *
    generalize 2 ^ t = D at *
    by_cases h0 : m = 0
    · subst h0; simp
    · have q1 : 0 < m * D * B := Nat.mul_pos (Nat.mul_pos (by omega) hp3) hp1
      have q2 : 0 < m * C := Nat.mul_pos (by omega) hp2
      generalize m * D * B = X at q1
      generalize m * C = Y at q2
      congr 1
      cases s
      · simp only [Bool.false_eq_true, if_false]
        rw [Int.compare_eq_gt.2 (by omega), Int.compare_eq_gt.2 (by omega)]
      · simp only [if_true]
        rw [Int.compare_eq_lt.2 (by omega), Int.compare_eq_lt.2 (by omega)]

def steep (y x : Nat) : Bool := FloatKind.f64.format.order (fabs (wide y)) (fabs (wide x)) == some .gt
/-- the tangent, not greater than 1 -/
def tanA (y x : Nat) : Nat := if steep y x then fop .quo .f64 (fabs (wide x)) (fabs (wide y)) else fop .quo .f64 (fabs (wide y)) (fabs (wide x))
def isZ (b : Nat) : Bool := FloatKind.f32.format.order b 0 == some .eq
def isL (b : Nat) : Bool := FloatKind.f32.format.order b 0 == some .lt

theorem tan_bd {y x : Nat} (hy : fin .f32 y = true) (hx : fin .f32 x = true) (hz : (isZ y && isZ x) = false) : BdP .f64 0 (tanA y x) := by
  cases hdy : FloatKind.f32.decode y with
  | nan s f => unfold fin at hy; rw [hdy] at hy; cases hy
  | infinity s => unfold fin at hy; rw [hdy] at hy; cases hy
  | number sy my ey =>
  cases hdx : FloatKind.f32.decode x with
  | nan s f => unfold fin at hx; rw [hdx] at hx; cases hx
  | infinity s => unfold fin at hx; rw [hdx] at hx; cases hx
  | number sx mx ex =>
    obtain ⟨ty, hty⟩ := wide_num hdy
    obtain ⟨tx, htx⟩ := wide_num hdx
    have ay : FloatKind.f64.decode (fabs (wide y)) = .number false (my * 2 ^ ty) (ey - ty) := by rw [read_fabs, hty]; rfl
    have ax : FloatKind.f64.decode (fabs (wide x)) = .number false (mx * 2 ^ tx) (ex - tx) := by rw [read_fabs, htx]; rfl
    have z64 : FloatKind.f64.decode 0 = .number false 0 (-1074) := by decide +kernel
    have hnz : ∀ {b : Nat} {s : Bool} {m t : Nat} {e : Int}, fin .f32 b = true → FloatKind.f64.decode (wide b) = .number s (m * 2 ^ t) (e - t) → m * 2 ^ t = 0 → isZ b = true := by
      intro b s m t e hf hd h0
      unfold isZ
      rw [← order_wide_zero hf, order_numbers hd z64, cmp_eq, h0]
      unfold Ieee.signed
      cases s <;> simp
    unfold tanA
    cases hs : steep y x
    · rw [if_neg (by decide)]
      unfold steep at hs
      rw [order_numbers ay ax, cmp_gt] at hs
      have h1 := of_decide_eq_false hs
      simp only [Ieee.signed, Bool.false_eq_true, if_false, Nat.shiftLeft_eq] at h1
      have h2 : my * 2 ^ ty * 2 ^ (ey - (ty : Int) - min (ey - (ty : Int)) (ex - (tx : Int))).toNat ≤ mx * 2 ^ tx * 2 ^ (ex - (tx : Int) - min (ey - (ty : Int)) (ex - (tx : Int))).toNat := by
        exact_mod_cast Int.not_lt.1 h1
      refine quo_one ay ax ?_ h2
      intro h0
      have z2 := hnz hx htx h0
      rw [h0, Nat.zero_mul] at h2
      have h3 : my * 2 ^ ty = 0 := by
        rcases Nat.mul_eq_zero.1 (Nat.le_zero.1 h2) with h | h
        · exact h
        · have := Nat.two_pow_pos (ey - (ty : Int) - min (ey - (ty : Int)) (ex - (tx : Int))).toNat
          omega
      have z1 := hnz hy hty h3
      rw [z1, z2] at hz; cases hz
    · rw [if_pos rfl]
      unfold steep at hs
      rw [order_numbers ay ax, cmp_gt] at hs
      have h1 := of_decide_eq_true hs
      simp only [Ieee.signed, Bool.false_eq_true, if_false, Nat.shiftLeft_eq] at h1
      have h2 : mx * 2 ^ tx * 2 ^ (ex - (tx : Int) - min (ey - (ty : Int)) (ex - (tx : Int))).toNat < my * 2 ^ ty * 2 ^ (ey - (ty : Int) - min (ey - (ty : Int)) (ex - (tx : Int))).toNat := by
        exact_mod_cast h1
      refine quo_one ax ay ?_ (by rw [Int.min_comm]; exact Nat.le_of_lt h2)
      intro h0
      rw [h0, Nat.zero_mul] at h2
      exact absurd h2 (Nat.not_lt_zero _)

def ang1 (y x : Nat) : Nat := if steep y x then fop .sub .f64 4598175219545276416 (flatA (tanA y x)) else flatA (tanA y x)
def ang2 (y x : Nat) : Nat := if isL x then fop .sub .f64 4602678819172646912 (ang1 y x) else ang1 y x
def ang3 (y x : Nat) : Nat := if isL y then Op.negFloat .f64 (ang2 y x) else ang2 y x
/-- the angle of a point -/
def angT (y x : Nat) : Nat := if fin .f32 y && fin .f32 x then if isZ y && isZ x then 0 else narrow (ang3 y x) else qnan .f32
theorem bd_quarter : Bd .f64 0 4598175219545276416 := ⟨false, 4503599627370496, -54, by decide +kernel, by unfold Le2; decide⟩
theorem ang1_bd {y x : Nat} (h : BdP .f64 0 (tanA y x)) : Bd .f64 10 (ang1 y x) := by
  unfold ang1; split
  · exact bd_sub fmt64 (bd_mono bd_quarter (by decide)) (flatA_bd h) (by decide) (by decide)
  · exact bd_mono (flatA_bd h) (by decide)
theorem ang2_bd {y x : Nat} (h : BdP .f64 0 (tanA y x)) : Bd .f64 11 (ang2 y x) := by
  unfold ang2; split
  · exact bd_sub fmt64 (bd_mono bd_half (by decide)) (ang1_bd h) (by decide) (by decide)
  · exact bd_mono (ang1_bd h) (by decide)
theorem ang3_bd {y x : Nat} (h : BdP .f64 0 (tanA y x)) : Bd .f64 11 (ang3 y x) := by
  unfold ang3; split
  · exact bd_neg (ang2_bd h)
  · exact ang2_bd h

@[go_sem] theorem drewN_nought (w : World) : w.drewN 0 = w := rfl

end Go.Proofs.Ytpmjikchlofebaa
