/- SectorOf: both sides. No statement is proved here. -/
import Derived.Test.YteligfbbofgonaaPos
import Derived.Test.YteligfbbofgonaaSin
import Derived.Test.YteligfbbofgonaaProf
namespace Go.Proofs.Yteligfbbofgonaa
open Go Go.RowKit
theorem int_le_of {a b : Int} (h : (some (compare a b) == some Ordering.lt || some (compare a b) == some Ordering.eq) = true) : a ≤ b := by
  rcases Int.lt_trichotomy a b with h1 | h1 | h1
  · omega
  · omega
  · have h2 : ¬ a < b := by omega
    have h3 : ¬ a = b := by omega
    rw [show compare a b = .gt by simp only [compare, compareOfLessAndEq, if_neg h2, if_neg h3]] at h
    exact absurd h (by decide)
theorem int_ge_of {a b : Int} (h : (some (compare a b) == some Ordering.gt || some (compare a b) == some Ordering.eq) = true) : b ≤ a := by
  rcases Int.lt_trichotomy a b with h1 | h1 | h1
  · rw [show compare a b = .lt by simp only [compare, compareOfLessAndEq, if_pos h1]] at h
    exact absurd h (by decide)
  · omega
  · omega
theorem turn_bd {t : Nat} (h : within t 3296329728 1148846080 = true) : Bd .f32 10 t := by
  unfold within at h
  rw [Bool.and_eq_true] at h
  obtain ⟨h1, h2⟩ := h
  unfold geq32 Ieee.Format.order at h1
  unfold leq32 Ieee.Format.order at h2
  have d1 : FloatKind.f32.format.read t = FloatKind.f32.decode t := rfl
  rw [d1] at h1 h2
  have c1 : FloatKind.f32.format.read 3296329728 = .number true 16384000 (-14) := by decide +kernel
  have c2 : FloatKind.f32.format.read 1148846080 = .number false 16384000 (-14) := by decide +kernel
  rw [c1] at h1
  rw [c2] at h2
  cases hx : FloatKind.f32.decode t with
  | nan s g => rw [hx] at h1; cases h1
  | infinity s =>
    rw [hx] at h1 h2
    cases s
    · have k : ((Ieee.Datum.infinity false).order (Ieee.Datum.number false 16384000 (-14)) == some Ordering.lt || (Ieee.Datum.infinity false).order (Ieee.Datum.number false 16384000 (-14)) == some Ordering.eq) = false := by decide
      rw [k] at h2; cases h2
    · have k : ((Ieee.Datum.infinity true).order (Ieee.Datum.number true 16384000 (-14)) == some Ordering.gt || (Ieee.Datum.infinity true).order (Ieee.Datum.number true 16384000 (-14)) == some Ordering.eq) = false := by decide
      rw [k] at h1; cases h1
  | number s m i =>
    rw [hx] at h1 h2
    simp only [Ieee.Datum.order] at h1 h2
    have g1 := int_ge_of h1
    have g2 := int_le_of h2
    unfold Ieee.signed at g1 g2
    simp only [Nat.shiftLeft_eq, if_true, Bool.false_eq_true, if_false] at g1 g2
    refine ⟨s, m, i, hx, ?_⟩
    have hb : m * 2 ^ (i - min i (-14)).toNat ≤ 16384000 * 2 ^ (-14 - min i (-14)).toNat := by
      cases s
      · simp only [Bool.false_eq_true, if_false] at g2; omega
      · simp only [if_true] at g1; omega
    have h3 : 16384000 * 2 ^ (-14 - min i (-14)).toNat ≤ 2 ^ (10 - min i (-14)).toNat := by
      rw [show (10 - min i (-14)).toNat = 24 + (-14 - min i (-14)).toNat by omega, Nat.pow_add]
      exact Nat.mul_le_mul_right _ (by decide)
    have h4 : Le2 (m * 2 ^ (i - min i (-14)).toNat) (min i (-14)) 10 := ⟨Nat.le_trans hb h3, fun h => by omega⟩
    rw [← le2_shift (i - min i (-14)).toNat, show i - ((i - min i (-14)).toNat : Int) = min i (-14) by omega]
    exact h4
theorem bd_wide {j : Int} {b : Nat} (h : Bd .f32 j b) (hlo : -1021 ≤ j) (hhi : j ≤ 1023) : Bd .f64 j (wide b) := by
  have hn := bd_not_nan h
  obtain ⟨s, m, e, hd, hl⟩ := h
  unfold wide
  rw [if_neg (by rw [hn]; decide), hd]
  exact bd_write fmt64 hl (by omega) hhi
theorem ofInt64_bd (n : Int) (h : n.natAbs ≤ 16) : Bd .f64 4 (floatOfInt .f64 n) := by
  have hb : Le2 n.natAbs 0 4 := ⟨h, fun h' => by omega⟩
  exact bd_write fmt64 hb (by decide) (by decide)
def floorF (b : Nat) : Nat := FloatKind.f64.encode ((FloatKind.f64.decode b).integral .down)
theorem cut_floor (neg : Bool) (n drop : Nat) : Ieee.Toward.down.cut neg n drop ≤ n / 2 ^ drop + 1 := by
  rw [← cut_down neg n drop]
  unfold Ieee.Toward.cut
  simp only [Bool.toNat_false, Nat.add_zero]
  have := Bool.toNat_le (neg && n % 1 <<< min drop (n.log2 + 2) != 0)
  omega
theorem floor_bd {x : Nat} (h : Bd .f64 15 x) : Bd .f64 16 (floorF x) := by
  obtain ⟨s, m, e, hd, hl⟩ := h
  unfold floorF
  rw [hd]
  simp only [Ieee.Datum.integral]
  refine bd_write fmt64 (s := s) ⟨?_, fun h' => by omega⟩ (by decide) (by decide)
  have h1 := cut_floor s (m <<< e.toNat) (-e).toNat
  have h2 : (m <<< e.toNat) / 2 ^ (-e).toNat = whole m e := by unfold whole; rw [Nat.shiftLeft_eq]
  have h3 := whole_le hl (by decide)
  rw [h2] at h1
  have h4 : (2 : Nat) ^ (15 : Int).toNat = 32768 := by decide
  have h5 : (2 : Nat) ^ ((16 : Int) - 0).toNat = 65536 := by decide
  rw [h5]
  omega
theorem ext_floor (b : Nat) (h : fin .f64 b = true) (w : World) : (callFunc 89 #[.float .f64 b]).run Try.prog w = .ok (.value (.float .f64 (floorF b))) w := by
  rw [run_callFunc_extern Try.func89 (by kernel_rfl) (by kernel_rfl) (by kernel_rfl) (e := Extern.MathFloor.toIntegral "math.archFloor" .down) (by kernel_rfl)]
  have key : Extern.MathFloor.toIntegral "math.archFloor" .down #[.float .f64 b] = pure (.float .f64 (floorF b)) := by
    unfold fin at h
    unfold floorF
    delta Extern.MathFloor.toIntegral
    conv => lhs; whnf
    generalize FloatKind.f64.decode b = d at *
    cases d with
    | nan s f => cases h
    | infinity s => cases h
    | number s m e => rfl
  rw [key]
  rfl
theorem m_Floor (b : Nat) (h : fin .f64 b = true) (w : World) :
    Calls Try.prog 64 #[.float .f64 b] w fun e w' => e = .returned (.float .f64 (floorF b)) ∧ w' = w := by
  have hx := ext_floor b h
  clear h
  go_enter Try.func64, Try.ntmps64
  go_wp2
  go_ret
  exact ⟨rfl, rfl⟩
theorem i_isSecCount (c : Int) (w : World) :
    Calls Try.prog 63 #[.int .i64 c] w fun e w' => e = .returned (.bool (decide (1 ≤ c ∧ c ≤ 16))) ∧ w' = w := by
  by_cases h : 1 ≤ c
  · go_enter Try.func63, Try.ntmps63
    go_wp2
    go_ret
    exact ⟨by simp [h], rfl⟩
  · go_enter Try.func63, Try.ntmps63
    go_wp2
    go_ret
    exact ⟨by simp; omega, rfl⟩
theorem s_l04Turn (x : Nat) (w : World) :
    Calls Try.prog 60 #[.float .f32 x] w fun e w' => e = .returned (.bool (within x 3296329728 1148846080)) ∧ w' = w := by
  cases h : (FloatKind.f32.format.order x 3296329728 == some .gt || FloatKind.f32.format.order x 3296329728 == some .eq)
  all_goals
    go_enter Try.func60, Try.ntmps60
    go_wp2
    go_ret
    exact ⟨by simp [within, geq32, leq32, h], rfl⟩
/-- what comes round -/
def secM (n c : Int) : Int := (wrap64 (n.tmod c + c)).tmod c
theorem i_around (n c : Int) (w : World) (h1 : 1 ≤ c) (h2 : c ≤ 16) :
    Calls Try.prog 65 #[.int .i64 n, .int .i64 c] w fun e w' => e = .returned (.int .i64 (secM n c)) ∧ w' = w := by
  go_enter Try.func65, Try.ntmps65
  go_wp2
  go_ret
  exact ⟨rfl, rfl⟩
def secX (t : Nat) (c : Int) : Nat := fop .add .f64 (fop .mul .f64 (wide t) (floatOfInt .f64 c)) 4602678819172646912
def secV (t : Nat) (c : Int) : Int := secM (toI (floorF (secX t c))) c
def secO (t : Nat) (c : Int) : Bool := within t 3296329728 1148846080 && decide (1 ≤ c ∧ c ≤ 16)
def secI (t : Nat) (c : Int) : Int := if secO t c then secV t c else 0
/-- what the walk asks of a turn -/
structure SecF (t : Nat) (c : Int) : Prop where
  w1 : ∀ w, wideV t w = wide t
  w2 : wideN t = 0
  m1 : ∀ w, fopV .mul .f64 (wide t) (floatOfInt .f64 c) w = fop .mul .f64 (wide t) (floatOfInt .f64 c)
  m2 : fopN .mul .f64 (wide t) (floatOfInt .f64 c) = 0
  a1 : ∀ w, fopV .add .f64 (fop .mul .f64 (wide t) (floatOfInt .f64 c)) 4602678819172646912 w = secX t c
  a2 : fopN .add .f64 (fop .mul .f64 (wide t) (floatOfInt .f64 c)) 4602678819172646912 = 0
  f : fin .f64 (secX t c) = true
  i : ∀ w, (convert 34 2 (.float .f64 (floorF (secX t c)))).run Try.prog w = .ok (.int .i64 (toI (floorF (secX t c)))) w
theorem secF_of {t : Nat} {c : Int} (h : within t 3296329728 1148846080 = true) (h1 : 1 ≤ c) (h2 : c ≤ 16) : SecF t c := by
  have b0 := turn_bd h
  have b1 := bd_wide b0 (by decide) (by decide)
  have b2 := ofInt64_bd c (by omega)
  have b3 := bd_mul fmt64 b1 b2 (by decide) (by decide)
  have b4 := bd_add fmt64 b3 (bd_mono bd_half (by decide : (0 : Int) ≤ 10 + 4)) (by decide) (by decide)
  have b5 := floor_bd (bd_mono b4 (by decide : (10 + 4 + 1 : Int) ≤ 15))
  exact ⟨(wide_sure (bd_not_nan b0)).1, (wide_sure (bd_not_nan b0)).2, (bd_sure b3).1, (bd_sure b3).2, (bd_sure b4).1, (bd_sure b4).2, bd_fin b4, fun w => run_convert_float_int w _ _ .f64 .i64 _ _ (by kernel_rfl) (by kernel_rfl) (toI_val (bd_mono b5 (by decide)))⟩
theorem i_SectorOf (t : Nat) (c : Int) (w : World) :
    Calls Try.prog 28 #[.float .f32 t, .int .i64 c] w fun e w' => e = .returned (.tuple #[.int .i64 (secI t c), .bool (secO t c)]) ∧ w' = w := by
  cases ht : within t 3296329728 1148846080
  · have HT := Lib.hid ht; clear ht
    have HO : Hid (secO t c = false) := Lib.hid (by unfold secO; rw [HT.out]; rfl)
    go_enter Try.func28, Try.ntmps28
    go_wp2_with fail
    refine (i_isWithin _ _ _ _).mono ?_
    rintro e w' ⟨rfl, rfl⟩
    rw [HT.out]
    go_wp2
    refine bodyPost_ret (results_tmp2 rfl _ _ _) rfl ?_
    exact ⟨by unfold secI; rw [HO.out]; rfl, rfl⟩
  · by_cases hc : 1 ≤ c ∧ c ≤ 16
    · have HO : Hid (secO t c = true) := Lib.hid (by unfold secO; rw [ht, decide_eq_true hc]; rfl)
      obtain ⟨h1, h2⟩ := hc
      obtain ⟨w1, w2, m1, m2, a1, a2, f, i⟩ := secF_of ht h1 h2
      have HT := Lib.hid ht; clear ht
      have HF := Lib.hid f; clear f
      have HC : Hid (decide (1 ≤ c ∧ c ≤ 16) = true) := Lib.hid (decide_eq_true ⟨h1, h2⟩)
      go_enter Try.func28, Try.ntmps28
      go_wp2_with fail
      refine (i_isWithin _ _ _ _).mono ?_
      rintro e w' ⟨rfl, rfl⟩
      rw [HT.out]
      go_wp2_with fail
      refine (i_isSecCount _ _).mono ?_
      rintro e w' ⟨rfl, rfl⟩
      rw [HC.out]
      go_wp2_with fail
      refine (m_Floor _ HF.out _).mono ?_
      rintro e w' ⟨rfl, rfl⟩
      go_wp2_with fail
      refine (i_around _ _ _ h1 h2).mono ?_
      rintro e w' ⟨rfl, rfl⟩
      go_wp2
      refine bodyPost_ret (results_tmp2 rfl _ _ _) rfl ?_
      exact ⟨by unfold secI; rw [HO.out]; rfl, rfl⟩
    · have HT := Lib.hid ht; clear ht
      have HO : Hid (secO t c = false) := Lib.hid (by unfold secO; rw [decide_eq_false hc, Bool.and_false])
      have HC : Hid (decide (1 ≤ c ∧ c ≤ 16) = false) := Lib.hid (decide_eq_false hc)
      clear hc
      go_enter Try.func28, Try.ntmps28
      go_wp2_with fail
      refine (i_isWithin _ _ _ _).mono ?_
      rintro e w' ⟨rfl, rfl⟩
      rw [HT.out]
      go_wp2_with fail
      refine (i_isSecCount _ _).mono ?_
      rintro e w' ⟨rfl, rfl⟩
      rw [HC.out]
      go_wp2
      refine bodyPost_ret (results_tmp2 rfl _ _ _) rfl ?_
      exact ⟨by unfold secI; rw [HO.out]; rfl, rfl⟩
theorem s_l04Sector (t : Nat) (c : Int) (w : World) (ht : within t 3296329728 1148846080 = true) (h1 : 1 ≤ c) (h2 : c ≤ 16) :
    Calls Try.prog 62 #[.float .f32 t, .int .i64 c] w fun e w' => e = .returned (.int .i64 (secV t c)) ∧ w' = w := by
  obtain ⟨w1, w2, m1, m2, a1, a2, f, i⟩ := secF_of ht h1 h2
  have HF := Lib.hid f; clear f ht
  go_enter Try.func62, Try.ntmps62
  go_wp2_with fail
  refine (m_Floor _ HF.out _).mono ?_
  rintro e w' ⟨rfl, rfl⟩
  go_wp2
  go_ret
  exact ⟨rfl, rfl⟩
theorem s_SectorOf (t : Nat) (c : Int) (w : World) :
    Calls Try.prog 27 #[.float .f32 t, .int .i64 c] w fun e w' => e = .returned (.tuple #[.int .i64 (secI t c), .bool (secO t c)]) ∧ w' = w := by
  cases ht : within t 3296329728 1148846080
  · have HT := Lib.hid ht; clear ht
    have HO : Hid (secO t c = false) := Lib.hid (by unfold secO; rw [HT.out]; rfl)
    go_enter Try.func27, Try.ntmps27
    go_wp2_with fail
    refine (s_l04Turn _ _).mono ?_
    rintro e w' ⟨rfl, rfl⟩
    rw [HT.out]
    go_wp2
    refine bodyPost_ret (results_tmp2 rfl _ _ _) rfl ?_
    exact ⟨by unfold secI; rw [HO.out]; rfl, rfl⟩
  · by_cases hc : 1 ≤ c ∧ c ≤ 16
    · have HO : Hid (secO t c = true) := Lib.hid (by unfold secO; rw [ht, decide_eq_true hc]; rfl)
      obtain ⟨h1, h2⟩ := hc
      have HT := Lib.hid ht; clear ht
      have HC : Hid ((decide ((1 : Int) ≤ c) && decide (c ≤ 16)) = true) := Lib.hid (by simp [h1, h2])
      go_enter Try.func27, Try.ntmps27
      go_wp2_with fail
      refine (s_l04Turn _ _).mono ?_
      rintro e w' ⟨rfl, rfl⟩
      rw [HT.out]
      go_wp2_with fail
      refine (s_l00In _ _ _ _).mono ?_
      rintro e w' ⟨rfl, rfl⟩
      rw [HC.out]
      go_wp2_with fail
      refine (s_l04Sector _ _ _ HT.out h1 h2).mono ?_
      rintro e w' ⟨rfl, rfl⟩
      go_wp2
      refine bodyPost_ret (results_tmp2 rfl _ _ _) rfl ?_
      exact ⟨by unfold secI; rw [HO.out]; rfl, rfl⟩
    · have HT := Lib.hid ht; clear ht
      have HO : Hid (secO t c = false) := Lib.hid (by unfold secO; rw [decide_eq_false hc, Bool.and_false])
      have HC : Hid ((decide ((1 : Int) ≤ c) && decide (c ≤ 16)) = false) := Lib.hid (by rw [Bool.and_eq_false_iff]; exact (Int.lt_or_le c 1).elim (fun h => .inl (decide_eq_false (by omega))) (fun h => .inr (decide_eq_false (by omega))))
      clear hc
      go_enter Try.func27, Try.ntmps27
      go_wp2_with fail
      refine (s_l04Turn _ _).mono ?_
      rintro e w' ⟨rfl, rfl⟩
      rw [HT.out]
      go_wp2_with fail
      refine (s_l00In _ _ _ _).mono ?_
      rintro e w' ⟨rfl, rfl⟩
      rw [HC.out]
      go_wp2
      refine bodyPost_ret (results_tmp2 rfl _ _ _) rfl ?_
      exact ⟨by unfold secI; rw [HO.out]; rfl, rfl⟩
end Go.Proofs.Yteligfbbofgonaa
