/- TenthsOf: the logarithm's tail, and what is told of a power. No statement is proved here. -/
import Derived.Test.YtngpholnljehjaaTen
namespace Go.Proofs.Ytngpholnljehjaa
open Go Go.RowKit
theorem cmpI_lt {a b : Int} (h : a < b) : compare a b = .lt := by simp only [compare, compareOfLessAndEq, if_pos h]
theorem cmpI_eq (a : Int) : compare a a = .eq := by simp only [compare, compareOfLessAndEq, if_neg (Int.lt_irrefl a), if_true]
theorem cmpI_gt {a b : Int} (h : b < a) : compare a b = .gt := by simp only [compare, compareOfLessAndEq, if_neg (show ¬ a < b by omega), if_neg (show ¬ a = b by omega)]
theorem ten_zero : FloatKind.f64.decode 0 = .number false 0 (-1074) := by decide +kernel
theorem ten_max : FloatKind.f64.decode 9218868437227405311 = .number false 9007199254740991 971 := by decide +kernel
theorem Nrm.self {x M : Nat} {E : Int} (h : Nrm x M E) : FloatKind.f64.format.order x x = some .eq := by
  rw [order_numbers h.d h.d, cmpI_eq]
theorem Nrm.pos {x M : Nat} {E : Int} (h : Nrm x M E) : FloatKind.f64.format.order x 0 = some .gt := by
  rw [order_numbers h.d ten_zero]
  simp only [Ieee.signed, Bool.false_eq_true, if_false, Nat.shiftLeft_eq, Nat.zero_mul]
  rw [cmpI_gt]
  have := Nat.mul_pos (show 0 < M by have := h.lo; have := Nat.two_pow_pos 52; omega) (Nat.two_pow_pos (E - min E (-1074)).toNat)
  omega
theorem Nrm.top {x M : Nat} {E : Int} (h : Nrm x M E) (he : E ≤ 300) : FloatKind.f64.format.order x 9218868437227405311 = some .lt := by
  rw [order_numbers h.d ten_max]
  simp only [Ieee.signed, Bool.false_eq_true, if_false, Nat.shiftLeft_eq]
  rw [show min E (971 : Int) = E by omega, show (E - E).toNat = 0 by omega, Nat.pow_zero, Nat.mul_one]
  have h1 := ten_grow (a := 9007199254740991) (n := (971 - E).toNat) (by omega)
  have h2 := h.hi
  have e3 : (2 : Nat) ^ (52 + 1) = 9007199254740992 := by decide
  rw [cmpI_lt (by omega)]
def lgS (x : Nat) : Nat := fop .quo .f64 (fop .sub .f64 x 4607182418800017408) (fop .add .f64 x 4607182418800017408)
def lgU (x : Nat) : Nat := fop .mul .f64 (lgS x) (lgS x)
def lgA (x : Nat) : Nat := fop .mul .f64 (lgS x) (lgq (lgU x) 13)
def lgB (x : Nat) : Nat := fop .mul .f64 4611686018427387904 (lgA x)
def lgE (e : Int) : Nat := fop .mul .f64 (floatOfInt .f64 e) 4604418534313441775
def lgR (x : Nat) (e : Int) : Nat := fop .add .f64 (lgB x) (lgE e)
theorem ten_sub {x M : Nat} {E : Int} (h : Nrm x M E) (hm : Mid M E) : Bd .f64 (-1) (fop .sub .f64 x 4607182418800017408) := by
  have hlo := h.lo
  have hhi := h.hi
  have e2 : (2 : Nat) ^ 52 = 4503599627370496 := by decide
  have e3 : (2 : Nat) ^ (52 + 1) = 9007199254740992 := by decide
  obtain ⟨t, v, hsum, hv⟩ : ∃ t v, (Ieee.Datum.number false M E).sum (Ieee.Datum.number false 4503599627370496 (-52)).opposite = some (.number t v (min E (-52))) ∧ Le2 v (min E (-52)) (-1) := by
    simp only [Ieee.Datum.opposite, Ieee.Datum.sum, Ieee.signed, Bool.not_false, Bool.false_eq_true, if_false, if_true, Nat.shiftLeft_eq]
    refine ⟨_, _, rfl, ?_, fun h => by omega⟩
    rcases hm with ⟨rfl, h1⟩ | ⟨rfl, h1⟩
    · rw [show (2 : Nat) ^ (-1 - min (-52 : Int) (-52)).toNat = 2251799813685248 by decide, show (2 : Nat) ^ ((-52 : Int) - min (-52) (-52)).toNat = 1 by decide]
      omega
    · rw [show (2 : Nat) ^ (-1 - min (-53 : Int) (-52)).toNat = 4503599627370496 by decide, show (2 : Nat) ^ ((-53 : Int) - min (-53) (-52)).toNat = 1 by decide, show (2 : Nat) ^ ((-52 : Int) - min (-53) (-52)).toNat = 2 by decide]
      omega
  have hb := bd_write fmt64 (s := t) hv (by decide) (by decide)
  have e : floatBits .sub .f64 x 4607182418800017408 = some (FloatKind.f64.encode (.number t v (min E (-52)))) := by
    unfold floatBits Ieee.Format.sub
    rw [show FloatKind.f64.format.read x = .number false M E from h.d, show FloatKind.f64.format.read 4607182418800017408 = .number false 4503599627370496 (-52) from ten_one]
    exact congrArg (Option.map FloatKind.f64.format.write) hsum
  unfold fop
  rw [e, Option.getD_some, bd_canon hb]
  exact hb
theorem ten_add {x M : Nat} {E : Int} (h : Nrm x M E) (hm : Mid M E) : BdP .f64 2 (fop .add .f64 x 4607182418800017408) ∧ Bg .f64 (-1) (fop .add .f64 x 4607182418800017408) := by
  have hlo := h.lo
  have hhi := h.hi
  have e2 : (2 : Nat) ^ 52 = 4503599627370496 := by decide
  have e3 : (2 : Nat) ^ (52 + 1) = 9007199254740992 := by decide
  have hx : BdP .f64 1 x := by
    refine ⟨M, E, h.d, ?_⟩
    rcases hm with ⟨rfl, h1⟩ | ⟨rfl, h1⟩
    · exact ⟨by rw [show (2 : Nat) ^ ((1 : Int) - -52).toNat = 9007199254740992 by decide]; omega, fun h => by omega⟩
    · exact ⟨by rw [show (2 : Nat) ^ ((1 : Int) - -53).toNat = 18014398509481984 by decide]; omega, fun h => by omega⟩
  have hg : Bg .f64 (-1) x := by
    refine ⟨false, M, E, h.d, ?_, by omega⟩
    rcases hm with ⟨rfl, h1⟩ | ⟨rfl, h1⟩
    · rw [show (2 : Nat) ^ ((-1 : Int) - -52).toNat = 2251799813685248 by decide, show (2 : Nat) ^ ((-52 : Int) - -1).toNat = 1 by decide]
      omega
    · rw [show (2 : Nat) ^ ((-1 : Int) - -53).toNat = 4503599627370496 by decide, show (2 : Nat) ^ ((-53 : Int) - -1).toNat = 1 by decide]
      omega
  exact bdp_add (c := -1) fmt64 hx (bdp_mono bdp_one (by decide)) (by decide) (by decide) (by decide) hg
theorem ten_int {n : Int} (h : n.natAbs ≤ 512) : Bd .f64 9 (floatOfInt .f64 n) := by
  have hb : Le2 n.natAbs 0 9 := ⟨h, fun h' => by omega⟩
  exact bd_write fmt64 hb (by decide) (by decide)
theorem bd_ln2 : Bd .f64 0 4604418534313441775 := ⟨false, 6243314768165359, -53, by decide +kernel, by unfold Le2; decide⟩
theorem bd_c43 : Bd .f64 6 4631308968768463603 := ⟨false, 6112151458964211, -47, by decide +kernel, by unfold Le2; decide⟩
theorem bd_twoT : Bd .f64 1 4611686018427387904 := ⟨false, 4503599627370496, -51, by decide +kernel, by unfold Le2; decide⟩
structure LgF (x : Nat) (e : Int) : Prop where
  d1 : ∀ w, fopV .sub .f64 x 4607182418800017408 w = fop .sub .f64 x 4607182418800017408
  d2 : fopN .sub .f64 x 4607182418800017408 = 0
  a1 : ∀ w, fopV .add .f64 x 4607182418800017408 w = fop .add .f64 x 4607182418800017408
  a2 : fopN .add .f64 x 4607182418800017408 = 0
  q1 : ∀ w, fopV .quo .f64 (fop .sub .f64 x 4607182418800017408) (fop .add .f64 x 4607182418800017408) w = lgS x
  q2 : fopN .quo .f64 (fop .sub .f64 x 4607182418800017408) (fop .add .f64 x 4607182418800017408) = 0
  m1 : ∀ w, fopV .mul .f64 (lgS x) (lgS x) w = lgU x
  m2 : fopN .mul .f64 (lgS x) (lgS x) = 0
  hu : Bd .f64 0 (lgU x)
  t1 : ∀ w, fopV .mul .f64 (lgS x) (lgq (lgU x) 13) w = lgA x
  t2 : fopN .mul .f64 (lgS x) (lgq (lgU x) 13) = 0
  b1 : ∀ w, fopV .mul .f64 4611686018427387904 (lgA x) w = lgB x
  b2 : fopN .mul .f64 4611686018427387904 (lgA x) = 0
  e1 : ∀ w, fopV .mul .f64 (floatOfInt .f64 e) 4604418534313441775 w = lgE e
  e2 : fopN .mul .f64 (floatOfInt .f64 e) 4604418534313441775 = 0
  r1 : ∀ w, fopV .add .f64 (lgB x) (lgE e) w = lgR x e
  r2 : fopN .add .f64 (lgB x) (lgE e) = 0
  bd : Bd .f64 15 (lgR x e)
theorem lgF_of {x M : Nat} {E e : Int} (h : Nrm x M E) (hm : Mid M E) (he : -300 ≤ e ∧ e ≤ 300) : LgF x e := by
  have s := ten_sub h hm
  have a := ten_add h hm
  have q : Bd .f64 0 (lgS x) := bd_quo (a := -1) (c := -1) fmt64 s a.2 (by decide) (by decide)
  have u : Bd .f64 0 (lgU x) := bd_mul (a := 0) (c := 0) fmt64 q q (by decide) (by decide)
  have t : Bd .f64 13 (lgA x) := bd_mul (a := 0) (c := 13) fmt64 q (lgq_bd u 13 (by decide)) (by decide) (by decide)
  have b : Bd .f64 14 (lgB x) := bd_mul (a := 1) (c := 13) fmt64 bd_twoT t (by decide) (by decide)
  have g : Bd .f64 9 (lgE e) := bd_mul (a := 9) (c := 0) fmt64 (ten_int (by omega)) bd_ln2 (by decide) (by decide)
  have r : Bd .f64 15 (lgR x e) := bd_add (a := 14) fmt64 b (bd_mono g (by decide)) (by decide) (by decide)
  exact ⟨(bd_sure s).1, (bd_sure s).2, (bd_sure (bdp_bd a.1)).1, (bd_sure (bdp_bd a.1)).2, (bd_sure q).1, (bd_sure q).2, (bd_sure u).1, (bd_sure u).2, u, (bd_sure t).1, (bd_sure t).2, (bd_sure b).1, (bd_sure b).2, (bd_sure g).1, (bd_sure g).2, (bd_sure r).1, (bd_sure r).2, r⟩
def floorT (b : Nat) : Nat := FloatKind.f64.encode ((FloatKind.f64.decode b).integral .down)
theorem cut_floorT (neg : Bool) (n drop : Nat) : Ieee.Toward.down.cut neg n drop ≤ n / 2 ^ drop + 1 := by
  rw [← cut_down neg n drop]
  unfold Ieee.Toward.cut
  simp only [Bool.toNat_false, Nat.add_zero]
  have := Bool.toNat_le (neg && n % 1 <<< min drop (n.log2 + 2) != 0)
  omega
theorem floor_bdT {x : Nat} (h : Bd .f64 30 x) : Bd .f64 31 (floorT x) := by
  obtain ⟨s, m, e, hd, hl⟩ := h
  unfold floorT
  rw [hd]
  simp only [Ieee.Datum.integral]
  refine bd_write fmt64 (s := s) ⟨?_, fun h' => by omega⟩ (by decide) (by decide)
  have h1 := cut_floorT s (m <<< e.toNat) (-e).toNat
  have h2 : (m <<< e.toNat) / 2 ^ (-e).toNat = whole m e := by unfold whole; rw [Nat.shiftLeft_eq]
  have h3 := whole_le hl (by decide)
  rw [h2] at h1
  have h4 : (2 : Nat) ^ (30 : Int).toNat = 1073741824 := by decide
  have h5 : (2 : Nat) ^ ((31 : Int) - 0).toNat = 2147483648 := by decide
  rw [h5]
  omega
/-- the logarithm of a power in 64 bits -/
def lgW (x : Nat) : Nat := lgR (upT 300 (dnT 300 x 0).1 (dnT 300 x 0).2).1 (upT 300 (dnT 300 x 0).1 (dnT 300 x 0).2).2
def tenX (l : Nat) : Nat := fop .add .f64 (fop .mul .f64 l 4631308968768463603) 4602678819172646912
def tenOk (p : Nat) : Bool := fin .f32 p && !(FloatKind.f32.format.order p 0 == some .lt || FloatKind.f32.format.order p 0 == some .eq)
def tenI (p : Nat) : Int := if tenOk p then toI (floorT (tenX (lgW (wide p)))) else 0
end Go.Proofs.Ytngpholnljehjaa
