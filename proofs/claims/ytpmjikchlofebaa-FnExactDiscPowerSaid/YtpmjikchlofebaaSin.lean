/- The plain mathematics of sines and parts of turns: bounds through rounding. No statement is proved here. -/
import Derived.Test.YtpmjikchlofebaaNum
namespace Go.Proofs.Ytpmjikchlofebaa
open Go Go.RowKit

/-- a number with few digits is written as it is -/
theorem read_exact {f : Ieee.Format} {p : Nat} {L top : Int} (F : Fmt f p L top) (s : Bool) {m : Nat} {e : Int} (hm : m < 2 ^ (p + 1)) (hL : L ≤ e) (htop : e + m.log2 + 1 ≤ top) (hp : L + p + 1 ≤ top) :
    ∃ t : Nat, f.read (f.write (.number s m e)) = .number s (m * 2 ^ t) (e - t) := by
  show ∃ t : Nat, f.read (f.nearest s m e) = .number s (m * 2 ^ t) (e - t)
  have hsw := f.infRung_lt
  have hsw0 : 0 < f.signWeight := Nat.two_pow_pos _
  have hp0 : 0 < 2 ^ p := Nat.two_pow_pos p
  have hread : ∀ r : Nat, r < f.infRung → f.read (f.word s r) = if r < 2 ^ p then .number s r L else .number s (2 ^ p + r % 2 ^ p) (L + ((r / 2 ^ p - 1 : Nat) : Int)) := by
    intro r hr
    have hmod : f.word s r % f.signWeight = r := by
      unfold Ieee.Format.word; split
      · rw [Nat.add_mod_left, Nat.mod_eq_of_lt (by omega)]
      · rw [Nat.mod_eq_of_lt (by omega)]
    have hneg : (f.word s r / f.signWeight % 2 == 1) = s := by
      unfold Ieee.Format.word
      cases s
      · simp [Nat.div_eq_of_lt (show r < f.signWeight by omega)]
      · simp only [if_true]
        rw [Nat.add_comm, Nat.add_div_right _ hsw0, Nat.div_eq_of_lt (by omega)]; rfl
    unfold Ieee.Format.read
    simp only [hmod, hneg, F.bin, F.least, if_pos hr]
  unfold Ieee.Format.nearest
  by_cases h0 : m = 0
  · subst h0
    rw [if_pos rfl, hread 0 (F.inf 0 (Nat.zero_le _)), if_pos hp0]
    exact ⟨(e - L).toNat, by rw [Nat.zero_mul]; congr 1; omega⟩
  · rw [if_neg h0]
    have hlt : m < 2 ^ (m.log2 + 1) := Nat.lt_log2_self
    have hle : 2 ^ m.log2 ≤ m := Nat.log2_self_le h0
    have hl : m.log2 ≤ p := by
      have := (Nat.log2_lt h0 (k := p + 1)).2 hm
      omega
    simp only [F.frac, F.least, F.bin]
    generalize m.log2 = l at *
    generalize hlast : max (e + (l : Int) - (p : Int)) L = last
    have h1 : last ≤ e := by omega
    rw [show (last - e).toNat = 0 by omega, cut_zero, Nat.shiftLeft_eq]
    generalize ht : (e - last).toNat = t
    have hte : e - (t : Int) = last := by omega
    have hup : m * 2 ^ t < 2 ^ (p + 1) := by
      calc m * 2 ^ t < 2 ^ (l + 1) * 2 ^ t := Nat.mul_lt_mul_of_pos_right hlt (Nat.two_pow_pos _)
        _ = 2 ^ (l + 1 + t) := (Nat.pow_add ..).symm
        _ ≤ _ := Nat.pow_le_pow_right (by decide) (by omega)
    have e3 : 2 ^ (p + 1) = 2 * 2 ^ p := by rw [Nat.pow_succ, Nat.mul_comm]
    have hr : (last - L).toNat * 2 ^ p + m * 2 ^ t < f.infRung := by
      refine F.inf _ ?_
      have e4 : (last - L).toNat + 2 ≤ (top - L - p + 1).toNat := by omega
      have e5 := Nat.mul_le_mul_right (2 ^ p) e4
      rw [Nat.add_mul] at e5
      omega
    rw [Nat.min_eq_left (Nat.le_of_lt hr), hread _ hr]
    refine ⟨t, ?_⟩
    rw [hte]
    generalize hM : m * 2 ^ t = M at *
    by_cases hz : last = L
    · subst hz
      rw [show (last - last).toNat = 0 by omega, Nat.zero_mul, Nat.zero_add]
      by_cases hs : M < 2 ^ p
      · rw [if_pos hs]
      · rw [if_neg hs]
        have q1 : M / 2 ^ p = 1 := by
          refine Nat.div_eq_of_lt_le ?_ ?_ <;> omega
        have q2 := Nat.div_add_mod M (2 ^ p)
        rw [q1, Nat.mul_one] at q2
        rw [q1, q2]; simp
    · have hn : 2 ^ p ≤ M := by
        have e6 : last = e + l - p := by omega
        have e7 : l + t = p := by omega
        rw [← hM, ← e7, Nat.pow_add]
        exact Nat.mul_le_mul_right _ hle
      generalize hg : (last - L).toNat = g
      have hg1 : 1 ≤ g := by omega
      have hbig : ¬ g * 2 ^ p + M < 2 ^ p := by omega
      rw [if_neg hbig]
      have q1 : (g * 2 ^ p + M) / 2 ^ p = g + 1 := by
        rw [Nat.mul_comm, Nat.mul_add_div hp0]
        have : M / 2 ^ p = 1 := by
          refine Nat.div_eq_of_lt_le ?_ ?_ <;> omega
        omega
      have q2 : (g * 2 ^ p + M) % 2 ^ p = M - 2 ^ p := by
        rw [Nat.mul_comm, Nat.mul_add_mod, Nat.mod_eq_sub_mod hn, Nat.mod_eq_of_lt (by omega)]
      rw [q1, q2]
      congr 1 <;> omega

/-- a whole number that float64 has -/
theorem read_ofInt (n : Int) (h : n.natAbs < 2 ^ 53) : ∃ t : Nat, FloatKind.f64.decode (floatOfInt .f64 n) = .number (n < 0) (n.natAbs * 2 ^ t) (-(t : Int)) := by
  have hl : n.natAbs.log2 ≤ 52 := by
    by_cases h0 : n.natAbs = 0
    · rw [h0]; decide
    · have := (Nat.log2_lt h0 (k := 53)).2 h
      omega
  obtain ⟨t, ht⟩ := read_exact fmt64 (decide (n < 0)) (m := n.natAbs) (e := 0) h (by omega) (by omega) (by decide)
  exact ⟨t, by rw [show -(t : Int) = 0 - t by omega]; exact ht⟩

/-- the integer that is left when the places behind the point are cut off -/
def toI (x : Nat) : Int := ((FloatKind.f64.decode x).toInt .zero).getD 0

theorem cut_down (neg : Bool) (n drop : Nat) : Ieee.Toward.zero.cut neg n drop = n / 2 ^ drop := by
  unfold Ieee.Toward.cut
  simp only [Nat.one_shiftLeft]
  show n / 2 ^ min drop (n.log2 + 2) + 0 = _
  by_cases hd : drop ≤ n.log2 + 2
  · rw [Nat.min_eq_left hd]
    rfl
  · rw [Nat.min_eq_right (by omega), Nat.add_zero]
    have hlt : n < 2 ^ (n.log2 + 1) := Nat.lt_log2_self
    rw [Nat.div_eq_of_lt (Nat.lt_of_lt_of_le hlt (Nat.pow_le_pow_right (by decide) (by omega))),
      Nat.div_eq_of_lt (Nat.lt_of_lt_of_le hlt (Nat.pow_le_pow_right (by decide) (by omega)))]

/-- the whole part of 'm * 2 ^ e' -/
def whole (m : Nat) (e : Int) : Nat := (m * 2 ^ e.toNat) / 2 ^ (-e).toNat

theorem toI_number {x : Nat} {s : Bool} {m : Nat} {e : Int} (h : FloatKind.f64.decode x = .number s m e) : (FloatKind.f64.decode x).toInt .zero = some (if s then -(whole m e : Int) else (whole m e : Int)) := by
  rw [h]
  simp only [Ieee.Datum.toInt, Ieee.Datum.integral, cut_down, Nat.shiftLeft_eq]
  unfold Ieee.signed whole
  simp only [Nat.shiftLeft_zero]

theorem whole_le {m : Nat} {e k : Int} (h : Le2 m e k) (hk : 0 ≤ k) : whole m e ≤ 2 ^ k.toNat := by
  unfold whole
  by_cases h0 : m = 0
  · subst h0; simp
  have hke : e ≤ k := by
    rcases Int.lt_or_le k e with h' | h'
    · exact absurd (h.2 h') h0
    · exact h'
  by_cases he : 0 ≤ e
  · rw [show (-e).toNat = 0 by omega, Nat.pow_zero, Nat.div_one]
    calc m * 2 ^ e.toNat ≤ 2 ^ (k - e).toNat * 2 ^ e.toNat := Nat.mul_le_mul_right _ h.1
      _ = 2 ^ k.toNat := by rw [← Nat.pow_add]; exact congrArg (fun x => 2 ^ x) (by omega)
  · rw [show e.toNat = 0 by omega, Nat.pow_zero, Nat.mul_one]
    refine Nat.div_le_of_le_mul ?_
    rw [← Nat.pow_add]
    exact Nat.le_trans h.1 (Nat.pow_le_pow_right (by decide) (by omega))

theorem toI_bd {x : Nat} {k : Int} (h : Bd .f64 k x) (hk : 0 ≤ k) : (toI x).natAbs ≤ 2 ^ k.toNat ∧ (FloatKind.f64.decode x).toInt .zero = some (toI x) := by
  obtain ⟨s, m, e, hd, hl⟩ := h
  have h1 := toI_number hd
  have h2 : toI x = if s then -(whole m e : Int) else (whole m e : Int) := by unfold toI; rw [h1]; rfl
  have h3 := whole_le hl hk
  refine ⟨?_, by rw [h1, h2]⟩
  rw [h2]
  generalize whole m e = q at h3 ⊢
  cases s <;> simp <;> omega

theorem toI_val {x : Nat} (h : Bd .f64 62 x) : floatToIntVal .f64 x .i64 = some (toI x) := by
  obtain ⟨h1, h2⟩ := toI_bd h (by decide)
  unfold floatToIntVal
  rw [h2]
  have h3 : (toI x).natAbs ≤ 4611686018427387904 := h1
  have e1 : IntKind.i64.min = -9223372036854775808 := by decide
  have e2 : IntKind.i64.max = 9223372036854775807 := by decide
  simp only [e1, e2]
  rw [if_pos (by omega)]

/-- what is left of a number behind the point: less than 1 -/
theorem part_le {m q : Nat} {e base : Int} {u : Nat} (hq : q = whole m e) (hb : base ≤ e) (hu : -(u : Int) - base = ((-(u : Int) - base).toNat : Int)) (hb0 : base ≤ 0) :
    (((m * 2 ^ (e - base).toNat : Nat) : Int) - ((q * 2 ^ u * 2 ^ (-(u : Int) - base).toNat : Nat) : Int)).natAbs ≤ 2 ^ (0 - base).toNat := by
  have e1 : q * 2 ^ u * 2 ^ (-(u : Int) - base).toNat = q * 2 ^ (0 - base).toNat := by
    rw [Nat.mul_assoc, ← Nat.pow_add]; exact congrArg (fun x => q * 2 ^ x) (by omega)
  rw [e1]
  subst hq
  unfold whole
  by_cases he : 0 ≤ e
  · rw [show (-e).toNat = 0 by omega, Nat.pow_zero, Nat.div_one, Nat.mul_assoc, ← Nat.pow_add, show e.toNat + (0 - base).toNat = (e - base).toNat by omega]
    simp
  · rw [show e.toNat = 0 by omega, Nat.pow_zero, Nat.mul_one]
    have e2 : 2 ^ (0 - base).toNat = 2 ^ (-e).toNat * 2 ^ (e - base).toNat := by
      rw [← Nat.pow_add]; exact congrArg (fun x => 2 ^ x) (by omega)
    rw [e2]
    generalize 2 ^ (e - base).toNat = A
    have h1 := Nat.div_add_mod m (2 ^ (-e).toNat)
    have h2 := Nat.mod_lt m (Nat.two_pow_pos (-e).toNat)
    generalize 2 ^ (-e).toNat = B at *
    generalize m / B = Q at *
    have h3 : Q * (B * A) = (B * Q) * A := by rw [← Nat.mul_assoc, Nat.mul_comm Q B]
    have h4 : m * A = (B * Q) * A + (m % B) * A := by rw [← Nat.add_mul, h1]
    have h5 : (m % B) * A ≤ B * A := Nat.mul_le_mul_right _ (Nat.le_of_lt h2)
    rw [h3, h4]
    omega

theorem frac_bd {x : Nat} (h : Bd .f64 52 x) : Bd .f64 0 (fop .sub .f64 x (floatOfInt .f64 (toI x))) := by
  obtain ⟨hi, -⟩ := toI_bd h (by decide)
  obtain ⟨s, m, e, hd, hl⟩ := h
  have h1 := toI_number hd
  have h2 : toI x = if s then -(whole m e : Int) else (whole m e : Int) := by unfold toI; rw [h1]; rfl
  have hi' : (toI x).natAbs < 2 ^ 53 := Nat.lt_of_le_of_lt hi (by decide)
  obtain ⟨u, hu⟩ := read_ofInt (toI x) hi'
  have hn : (toI x).natAbs = whole m e := by rw [h2]; cases s <;> simp
  rw [hn] at hu
  generalize hq : whole m e = q at *
  have d1 : FloatKind.f64.format.read x = .number s m e := hd
  have d2 : FloatKind.f64.format.read (floatOfInt .f64 (toI x)) = .number (toI x < 0) (q * 2 ^ u) (-(u : Int)) := hu
  -- the difference, exactly
  obtain ⟨t, n, base, hsum, hle⟩ : ∃ t n base, (Ieee.Datum.number s m e).sum (Ieee.Datum.number (toI x < 0) (q * 2 ^ u) (-(u : Int))).opposite = some (.number t n base) ∧ Le2 n base 0 := by
    refine ⟨_, _, _, rfl, ?_⟩
    generalize hb : min e (-(u : Int)) = base
    have key := part_le (m := m) (q := q) (e := e) (base := base) (u := u) hq.symm (by omega) (by omega) (by omega)
    refine ⟨?_, fun hh => by omega⟩
    refine Nat.le_trans (Nat.le_of_eq ?_) key
    unfold Ieee.signed
    rw [Nat.shiftLeft_eq, Nat.shiftLeft_eq]
    generalize hA : m * 2 ^ (e - base).toNat = A at *
    generalize hB : q * 2 ^ u * 2 ^ (-(u : Int) - base).toNat = B at *
    have hs : toI x = if s then -(q : Int) else (q : Int) := h2
    cases s
    · have : ¬ toI x < 0 := by rw [hs]; simp
      simp [this]; omega
    · by_cases hq0 : q = 0
      · have hB0 : B = 0 := by rw [← hB, hq0]; simp
        rw [hB0]; split <;> split <;> simp_all
      · have : toI x < 0 := by rw [hs]; simp; omega
        simp [this]; omega
  have hb := bd_write fmt64 (s := t) hle (by decide) (by decide)
  have e1 : floatBits .sub .f64 x (floatOfInt .f64 (toI x)) = some (FloatKind.f64.encode (.number t n base)) := by
    unfold floatBits Ieee.Format.sub
    rw [d1, d2]
    exact congrArg (Option.map FloatKind.f64.format.write) hsum
  unfold fop
  rw [e1, Option.getD_some, bd_canon hb]; exact hb


/-! ## sines -/

def frD (x : Nat) : Nat := fop .sub .f64 x (floatOfInt .f64 (toI x))
def frNeg (x : Nat) : Bool := FloatKind.f64.format.order (frD x) 0 == some .lt
/-- what is left of turns behind the point, not less than 0 -/
def fr (x : Nat) : Nat := if frNeg x then fop .add .f64 (frD x) 4607182418800017408 else frD x
def below (f : Nat) : Bool := FloatKind.f64.format.order f 4602678819172646912 == some .gt || FloatKind.f64.format.order f 4602678819172646912 == some .eq
def red1 (f : Nat) : Nat := if below f then fop .sub .f64 f 4602678819172646912 else f
def over4 (f : Nat) : Bool := FloatKind.f64.format.order f 4598175219545276416 == some .gt
def red (f : Nat) : Nat := if over4 (red1 f) then fop .sub .f64 4602678819172646912 (red1 f) else red1 f
def ang (f : Nat) : Nat := fop .mul .f64 (red f) 4618760256179416344
def sqr (z : Nat) : Nat := fop .mul .f64 z z
def den (j : Nat) : Int := 2 * (8 - j) * (2 * (8 - j) + 1)
def pol (u : Nat) : Nat → Nat
  | 0 => 4607182418800017408
  | j + 1 => fop .sub .f64 4607182418800017408 (fop .quo .f64 (fop .mul .f64 u (pol u j)) (floatOfInt .f64 (den j)))
def sinP (f : Nat) : Nat := fop .mul .f64 (ang f) (pol (sqr (ang f)) 8)
/-- the sine of a part of a turn -/
def sinF (f : Nat) : Nat := if below f then Op.negFloat .f64 (sinP f) else sinP f

/-- an operation that makes no not-a-number -/
theorem fop_sure {op : BinOp} {k : FloatKind} {x y : Nat} (h : isn k (fop op k x y) = false) : (∀ w, fopV op k x y w = fop op k x y) ∧ fopN op k x y = 0 := by
  unfold fop fopV fopN at *
  cases hb : floatBits op k x y with
  | none => rw [hb, Option.getD_none, isn_canon, isn_qnan] at h; cases h
  | some r =>
    rw [hb, Option.getD_some, isn_canon] at h
    exact ⟨fun _ => by rw [Option.getD_some, Option.getD_some, canon_of_not h], rfl⟩
theorem bd_sure {op : BinOp} {k : FloatKind} {j : Int} {x y : Nat} (h : Bd k j (fop op k x y)) : (∀ w, fopV op k x y w = fop op k x y) ∧ fopN op k x y = 0 := fop_sure (bd_not_nan h)

theorem bd_one : Bd .f64 0 4607182418800017408 := ⟨false, 4503599627370496, -52, by decide +kernel, by unfold Le2; decide⟩
theorem bd_half : Bd .f64 0 4602678819172646912 := ⟨false, 4503599627370496, -53, by decide +kernel, by unfold Le2; decide⟩
theorem bd_circle : Bd .f64 3 4618760256179416344 := ⟨false, 7074237752028440, -50, by decide +kernel, by unfold Le2; decide⟩
theorem bg_circle : Bg .f64 2 4618760256179416344 := ⟨false, 7074237752028440, -50, by decide +kernel, by unfold Ge2; decide⟩

theorem fr_bd {x : Nat} (h : Bd .f64 52 x) : Bd .f64 1 (fr x) := by
  have h0 := frac_bd h
  unfold fr; split
  · exact bd_add fmt64 h0 bd_one (by decide) (by decide)
  · exact bd_mono h0 (by decide)
theorem red1_bd {f : Nat} (h : Bd .f64 1 f) : Bd .f64 2 (red1 f) := by
  unfold red1; split
  · exact bd_sub fmt64 h (bd_mono bd_half (by decide)) (by decide) (by decide)
  · exact bd_mono h (by decide)
theorem red_bd {f : Nat} (h : Bd .f64 1 f) : Bd .f64 3 (red f) := by
  unfold red; split
  · exact bd_sub fmt64 (bd_mono bd_half (by decide)) (red1_bd h) (by decide) (by decide)
  · exact bd_mono (red1_bd h) (by decide)
theorem ang_bd {f : Nat} (h : Bd .f64 1 f) : Bd .f64 6 (ang f) := bd_mul fmt64 (red_bd h) bd_circle (by decide) (by decide)
theorem sqr_bd {f : Nat} (h : Bd .f64 1 f) : Bd .f64 12 (sqr (ang f)) := bd_mul fmt64 (ang_bd h) (ang_bd h) (by decide) (by decide)

/-- how great the j-th p is at most, and what it is divided by at least -/
def polB : Nat → Int
  | 0 => 0 | 1 => 5 | 2 => 11 | 3 => 17 | 4 => 24 | 5 => 31 | 6 => 39 | 7 => 48 | _ => 59
def denB : Nat → Int
  | 0 => 8 | 1 => 7 | 2 => 7 | 3 => 6 | 4 => 6 | 5 => 5 | 6 => 4 | _ => 2

theorem den_bg : ∀ j : Nat, j < 8 → Bg .f64 (denB j) (floatOfInt .f64 (den j)) := by
  intro j hj
  have : j = 0 ∨ j = 1 ∨ j = 2 ∨ j = 3 ∨ j = 4 ∨ j = 5 ∨ j = 6 ∨ j = 7 := by omega
  rcases this with rfl | rfl | rfl | rfl | rfl | rfl | rfl | rfl
  · exact ⟨false, 4785074604081152, -44, by decide +kernel, by unfold Ge2; decide⟩
  · exact ⟨false, 7388718138654720, -45, by decide +kernel, by unfold Ge2; decide⟩
  · exact ⟨false, 5488762045857792, -45, by decide +kernel, by unfold Ge2; decide⟩
  · exact ⟨false, 7740561859543040, -46, by decide +kernel, by unfold Ge2; decide⟩
  · exact ⟨false, 5066549580791808, -46, by decide +kernel, by unfold Ge2; decide⟩
  · exact ⟨false, 5910974510923776, -47, by decide +kernel, by unfold Ge2; decide⟩
  · exact ⟨false, 5629499534213120, -48, by decide +kernel, by unfold Ge2; decide⟩
  · exact ⟨false, 6755399441055744, -50, by decide +kernel, by unfold Ge2; decide⟩

theorem pol_step {u p : Nat} {j : Nat} {a : Int} (hu : Bd .f64 12 u) (hj : j < 8) (hp : Bd .f64 a p) (h0 : 0 ≤ a) (h1 : a ≤ 100) :
    Bd .f64 (12 + a) (fop .mul .f64 u p) ∧ Bd .f64 (12 + a - denB j) (fop .quo .f64 (fop .mul .f64 u p) (floatOfInt .f64 (den j))) ∧
    Bd .f64 (12 + a - denB j + 1) (fop .sub .f64 4607182418800017408 (fop .quo .f64 (fop .mul .f64 u p) (floatOfInt .f64 (den j)))) := by
  have hd : 2 ≤ denB j ∧ denB j ≤ 8 := by
    have : j = 0 ∨ j = 1 ∨ j = 2 ∨ j = 3 ∨ j = 4 ∨ j = 5 ∨ j = 6 ∨ j = 7 := by omega
    rcases this with rfl | rfl | rfl | rfl | rfl | rfl | rfl | rfl <;> decide
  have b1 := bd_mul fmt64 hu hp (by omega) (by omega)
  have b2 := bd_quo fmt64 b1 (den_bg j hj) (by omega) (by omega)
  exact ⟨b1, b2, bd_sub fmt64 (bd_mono bd_one (by omega)) b2 (by omega) (by omega)⟩

theorem pol_bd {u : Nat} (hu : Bd .f64 12 u) : ∀ j, j ≤ 8 → Bd .f64 (polB j) (pol u j)
  | 0, _ => bd_one
  | j + 1, hj => by
    have ih := pol_bd hu j (by omega)
    have hs := (pol_step (j := j) hu (by omega) ih (by
      have : j = 0 ∨ j = 1 ∨ j = 2 ∨ j = 3 ∨ j = 4 ∨ j = 5 ∨ j = 6 ∨ j = 7 := by omega
      rcases this with rfl | rfl | rfl | rfl | rfl | rfl | rfl | rfl <;> decide) (by
      have : j = 0 ∨ j = 1 ∨ j = 2 ∨ j = 3 ∨ j = 4 ∨ j = 5 ∨ j = 6 ∨ j = 7 := by omega
      rcases this with rfl | rfl | rfl | rfl | rfl | rfl | rfl | rfl <;> decide)).2.2
    refine bd_mono hs ?_
    have : j = 0 ∨ j = 1 ∨ j = 2 ∨ j = 3 ∨ j = 4 ∨ j = 5 ∨ j = 6 ∨ j = 7 := by omega
    rcases this with rfl | rfl | rfl | rfl | rfl | rfl | rfl | rfl <;> decide

theorem sinP_bd {f : Nat} (h : Bd .f64 1 f) : Bd .f64 65 (sinP f) := bd_mul fmt64 (ang_bd h) (pol_bd (sqr_bd h) 8 (by decide)) (by decide) (by decide)

theorem xor_sign (b n : Nat) : (b ^^^ 2 ^ n) % 2 ^ n = b % 2 ^ n ∧ ((b ^^^ 2 ^ n) / 2 ^ n % 2 == 1) = !(b / 2 ^ n % 2 == 1) := by
  constructor
  · rw [Nat.xor_mod_two_pow, Nat.mod_self, Nat.xor_zero]
  · have e : (b ^^^ 2 ^ n) / 2 ^ n = (b / 2 ^ n) ^^^ 1 := by
      rw [← Nat.shiftRight_eq_div_pow, Nat.shiftRight_xor_distrib, Nat.shiftRight_eq_div_pow, Nat.shiftRight_eq_div_pow, Nat.div_self (Nat.two_pow_pos n)]
    rw [e]
    have h2 : ((b / 2 ^ n) ^^^ 1) % 2 = (b / 2 ^ n) % 2 ^^^ 1 := by
      have := Nat.xor_mod_two_pow (a := b / 2 ^ n) (b := 1) (n := 1)
      simpa using this
    rw [h2]
    rcases Nat.mod_two_eq_zero_or_one (b / 2 ^ n) with h | h <;> rw [h] <;> rfl

theorem read_neg (k : FloatKind) (b : Nat) : k.decode (Op.negFloat k b) = (k.decode b).opposite := by
  obtain ⟨h1, h2⟩ := xor_sign b (k.format.exponentBits + k.format.fractionBits)
  unfold FloatKind.decode Op.negFloat Ieee.Format.read Ieee.Format.signWeight
  simp only [h1, h2]
  split
  · rfl
  · split
    · rfl
    · split <;> rfl

theorem isn_neg (k : FloatKind) (b : Nat) : isn k (Op.negFloat k b) = isn k b := by
  unfold isn; rw [read_neg]; cases k.decode b <;> rfl

theorem bd_neg {k : FloatKind} {j : Int} {b : Nat} (h : Bd k j b) : Bd k j (Op.negFloat k b) := by
  obtain ⟨s, m, e, hd, hl⟩ := h
  exact ⟨!s, m, e, by rw [read_neg, hd]; rfl, hl⟩

theorem sinF_bd {f : Nat} (h : Bd .f64 1 f) : Bd .f64 65 (sinF f) := by
  unfold sinF; split
  · exact bd_neg (sinP_bd h)
  · exact sinP_bd h

/-! ## how far from 0 -/

theorem c52_read : FloatKind.f64.decode 4841369599423283200 = .number false 4503599627370496 0 := by decide +kernel
theorem m52_read : FloatKind.f64.decode 14064741636278059008 = .number true 4503599627370496 0 := by decide +kernel

def far (x : Nat) : Bool := FloatKind.f64.format.order (fabs x) 4841369599423283200 == some .gt || FloatKind.f64.format.order (fabs x) 4841369599423283200 == some .eq

theorem order_numbers {k : FloatKind} {x y : Nat} {s t : Bool} {m n : Nat} {i j : Int} (hx : k.decode x = .number s m i) (hy : k.decode y = .number t n j) :
    k.format.order x y = some (compare (Ieee.signed s m (i - min i j).toNat) (Ieee.signed t n (j - min i j).toNat)) := by
  have d1 : k.format.read x = .number s m i := hx
  have d2 : k.format.read y = .number t n j := hy
  unfold Ieee.Format.order
  rw [d1, d2]; rfl

theorem cmp_gt (a b : Int) : (some (compare a b) == some Ordering.gt) = decide (b < a) := by
  rcases Int.lt_trichotomy a b with h | h | h
  · rw [Int.compare_eq_lt.2 h, decide_eq_false (by omega)]; rfl
  · rw [Int.compare_eq_eq.2 h, decide_eq_false (by omega)]; rfl
  · rw [Int.compare_eq_gt.2 h, decide_eq_true h]; rfl
theorem cmp_lt (a b : Int) : (some (compare a b) == some Ordering.lt) = decide (a < b) := by
  rcases Int.lt_trichotomy a b with h | h | h
  · rw [Int.compare_eq_lt.2 h, decide_eq_true h]; rfl
  · rw [Int.compare_eq_eq.2 h, decide_eq_false (by omega)]; rfl
  · rw [Int.compare_eq_gt.2 h, decide_eq_false (by omega)]; rfl
theorem cmp_eq (a b : Int) : (some (compare a b) == some Ordering.eq) = decide (a = b) := by
  rcases Int.lt_trichotomy a b with h | h | h
  · rw [Int.compare_eq_lt.2 h, decide_eq_false (by omega)]; rfl
  · rw [Int.compare_eq_eq.2 h, decide_eq_true h]; rfl
  · rw [Int.compare_eq_gt.2 h, decide_eq_false (by omega)]; rfl

theorem far_parts {x : Nat} {s : Bool} {m : Nat} {e : Int} (h : FloatKind.f64.decode x = .number s m e) :
    far x = decide (4503599627370496 * 2 ^ (0 - min e 0).toNat ≤ m * 2 ^ (e - min e 0).toNat) ∧
    (FloatKind.f64.format.order x 4841369599423283200 == some .gt || FloatKind.f64.format.order x 4841369599423283200 == some .eq || (FloatKind.f64.format.order x 14064741636278059008 == some .lt || FloatKind.f64.format.order x 14064741636278059008 == some .eq)) = far x := by
  have ha : FloatKind.f64.decode (fabs x) = .number false m e := by rw [read_fabs, h]; rfl
  have e1 : far x = decide (4503599627370496 * 2 ^ (0 - min e 0).toNat ≤ m * 2 ^ (e - min e 0).toNat) := by
    unfold far
    rw [order_numbers ha c52_read]
    simp only [cmp_gt, cmp_eq, Ieee.signed, Bool.false_eq_true, if_false, Nat.shiftLeft_eq]
    rw [Bool.eq_iff_iff]; simp only [Bool.or_eq_true, decide_eq_true_eq]; omega
  refine ⟨e1, ?_⟩
  rw [e1, order_numbers h c52_read, order_numbers h m52_read]
  simp only [cmp_gt, cmp_lt, cmp_eq, Ieee.signed, Bool.false_eq_true, if_false, if_true, Nat.shiftLeft_eq]
  have hp : 0 < 2 ^ (0 - min e 0).toNat := Nat.two_pow_pos _
  generalize 2 ^ (0 - min e 0).toNat = B at *
  generalize m * 2 ^ (e - min e 0).toNat = A at *
  cases s
  · rw [Bool.eq_iff_iff]; simp only [Bool.false_eq_true, if_false, Bool.or_eq_true, decide_eq_true_eq]; omega
  · rw [Bool.eq_iff_iff]; simp only [if_true, Bool.or_eq_true, decide_eq_true_eq]; omega

theorem near_bd {x : Nat} (hf : fin .f64 x = true) (h : far x = false) : Bd .f64 52 x := by
  cases hd : FloatKind.f64.decode x with
  | nan s f => unfold fin at hf; rw [hd] at hf; cases hf
  | infinity s => unfold fin at hf; rw [hd] at hf; cases hf
  | number s m e =>
    refine ⟨s, m, e, hd, ?_⟩
    rw [(far_parts hd).1] at h
    have h' := of_decide_eq_false h
    by_cases he : 0 ≤ e
    · rw [show min e 0 = 0 by omega, show ((0 : Int) - 0).toNat = 0 by rfl, Int.sub_zero, Nat.pow_zero, Nat.mul_one] at h'
      have hlt : m * 2 ^ e.toNat < 2 ^ 52 := by
        have : (2 : Nat) ^ 52 = 4503599627370496 := by decide
        omega
      have := (le2_shift (m := m) (e := e) (k := 52) e.toNat).1 ⟨by rw [show e - (e.toNat : Int) = 0 by omega]; exact Nat.le_of_lt hlt, fun hh => by omega⟩
      exact this
    · rw [show min e 0 = e by omega, Int.sub_self, show (0 : Int).toNat = 0 by rfl, Nat.pow_zero, Nat.mul_one] at h'
      refine ⟨?_, fun hh => by omega⟩
      have e2 : 2 ^ (52 - e).toNat = 4503599627370496 * 2 ^ (0 - e).toNat := by
        rw [show (4503599627370496 : Nat) = 2 ^ 52 by decide, ← Nat.pow_add]; exact congrArg (fun x => 2 ^ x) (by omega)
      rw [e2]; omega

/-- what the walk of a sine needs, case by case -/
structure SinFacts (f : Nat) : Prop where
  z1 : ∀ w, fopV .mul .f64 (red f) 4618760256179416344 w = ang f
  z2 : fopN .mul .f64 (red f) 4618760256179416344 = 0
  u1 : ∀ w, fopV .mul .f64 (ang f) (ang f) w = sqr (ang f)
  u2 : fopN .mul .f64 (ang f) (ang f) = 0
  r1 : ∀ w, fopV .mul .f64 (ang f) (pol (sqr (ang f)) 8) w = sinP f
  r2 : fopN .mul .f64 (ang f) (pol (sqr (ang f)) 8) = 0
theorem sinFacts {f : Nat} (h : Bd .f64 1 f) : SinFacts f where
  z1 := (bd_sure (ang_bd h)).1
  z2 := (bd_sure (ang_bd h)).2
  u1 := (bd_sure (sqr_bd h)).1
  u2 := (bd_sure (sqr_bd h)).2
  r1 := (bd_sure (sinP_bd h)).1
  r2 := (bd_sure (sinP_bd h)).2

theorem red1_no {f : Nat} (h : below f = false) : red1 f = f := by unfold red1; rw [h]; rfl
theorem red1_yes {f : Nat} (h : below f = true) : fop .sub .f64 f 4602678819172646912 = red1 f := by unfold red1; rw [h]; rfl
theorem red_no {f : Nat} (h : over4 (red1 f) = false) : red f = red1 f := by unfold red; rw [h]; rfl
theorem red_yes {f : Nat} (h : over4 (red1 f) = true) : fop .sub .f64 4602678819172646912 (red1 f) = red f := by unfold red; rw [h]; rfl
theorem sinF_no {f : Nat} (h : below f = false) : sinF f = sinP f := by unfold sinF; rw [h]; rfl
theorem sinF_yes {f : Nat} (h : below f = true) : sinF f = Op.negFloat .f64 (sinP f) := by unfold sinF; rw [h]; rfl
theorem red1_sure {f : Nat} (h : Bd .f64 1 f) (hb : below f = true) : (∀ w, fopV .sub .f64 f 4602678819172646912 w = red1 f) ∧ fopN .sub .f64 f 4602678819172646912 = 0 := by
  have h1 := red1_bd h
  rw [← red1_yes hb] at h1 ⊢
  exact bd_sure h1
theorem red_sure {f : Nat} (h : Bd .f64 1 f) (ho : over4 (red1 f) = true) : (∀ w, fopV .sub .f64 4602678819172646912 (red1 f) w = red f) ∧ fopN .sub .f64 4602678819172646912 (red1 f) = 0 := by
  have h1 := red_bd h
  rw [← red_yes ho] at h1 ⊢
  exact bd_sure h1

/-- the facts of one round -/
theorem pol_sure {u : Nat} (hu : Bd .f64 12 u) (j : Nat) (hj : j < 8) :
    ((∀ w, fopV .mul .f64 u (pol u j) w = fop .mul .f64 u (pol u j)) ∧ fopN .mul .f64 u (pol u j) = 0) ∧
    ((∀ w, fopV .quo .f64 (fop .mul .f64 u (pol u j)) (floatOfInt .f64 (den j)) w = fop .quo .f64 (fop .mul .f64 u (pol u j)) (floatOfInt .f64 (den j))) ∧ fopN .quo .f64 (fop .mul .f64 u (pol u j)) (floatOfInt .f64 (den j)) = 0) ∧
    ((∀ w, fopV .sub .f64 4607182418800017408 (fop .quo .f64 (fop .mul .f64 u (pol u j)) (floatOfInt .f64 (den j))) w = pol u (j + 1)) ∧ fopN .sub .f64 4607182418800017408 (fop .quo .f64 (fop .mul .f64 u (pol u j)) (floatOfInt .f64 (den j))) = 0) := by
  have hb := pol_bd hu j (by omega)
  obtain ⟨a, b, c⟩ := pol_step hu hj hb (by
      have : j = 0 ∨ j = 1 ∨ j = 2 ∨ j = 3 ∨ j = 4 ∨ j = 5 ∨ j = 6 ∨ j = 7 := by omega
      rcases this with rfl | rfl | rfl | rfl | rfl | rfl | rfl | rfl <;> decide) (by
      have : j = 0 ∨ j = 1 ∨ j = 2 ∨ j = 3 ∨ j = 4 ∨ j = 5 ∨ j = 6 ∨ j = 7 := by omega
      rcases this with rfl | rfl | rfl | rfl | rfl | rfl | rfl | rfl <;> decide)
  exact ⟨bd_sure a, bd_sure b, bd_sure c⟩

@[go_sem] theorem unary_neg_float (k : FloatKind) (b : Nat) : Op.unary .neg (.float k b) = pure (.float k (Op.negFloat k b)) := rfl
@[go_sem] theorem unary_neg_complex (k : FloatKind) (a b : Nat) : Op.unary .neg (.complex k a b) = pure (.complex k (Op.negFloat k a) (Op.negFloat k b)) := rfl
theorem den_0 : den 0 = 272 := by decide
theorem den_1 : den 1 = 210 := by decide
theorem den_2 : den 2 = 156 := by decide
theorem den_3 : den 3 = 110 := by decide
theorem den_4 : den 4 = 72 := by decide
theorem den_5 : den 5 = 42 := by decide
theorem den_6 : den 6 = 20 := by decide
theorem den_7 : den 7 = 6 := by decide


theorem sub_self_sure {k : FloatKind} {y : Nat} (h : fin k y = true) : (∀ w, fopV .sub k y y w = 0) ∧ fopN .sub k y y = 0 := by
  unfold fopV fopN
  rw [sub_self_fin, h]
  exact ⟨fun _ => rfl, rfl⟩
theorem sub_self_nan {k : FloatKind} {y : Nat} (h : fin k y = false) : ∀ w z, k.format.order (fopV .sub k y y w) z = none := by
  intro w z
  refine order_nan_left ?_
  unfold fopV
  rw [sub_self_fin, h]
  exact cut_nanBits ..

theorem wide_sure {b : Nat} (h : isn .f32 b = false) : (∀ w, wideV b w = wide b) ∧ wideN b = 0 := by
  unfold wideV wide wideN
  simp [h]
theorem fin_wide (b : Nat) : fin .f64 (wide b) = fin .f32 b := by
  cases h : isn .f32 b
  · rw [← (wide_sure h).1 default, fin_wideV]
  · rw [fin_of_nan h, fin_of_nan (by rw [isn_wide, h])]
theorem not_nan_of_fin {k : FloatKind} {b : Nat} (h : fin k b = true) : isn k b = false := by
  cases hn : isn k b
  · rfl
  · rw [fin_of_nan hn] at h; cases h
theorem narrow_sure {b : Nat} (h : isn .f64 b = false) (ho : over b = false) : (∀ w, narrowV b w = narrow b) ∧ narrowN b = 0 := by
  unfold narrowV narrow narrowN
  simp [h, ho]
theorem narrow_bd_sure {j : Int} {b : Nat} (h : Bd .f64 j b) (hlo : -125 ≤ j) (hhi : j ≤ 127) : (∀ w, narrowV b w = narrow b) ∧ narrowN b = 0 :=
  narrow_sure (bd_not_nan h) (narrow_bd h hlo hhi).1
theorem isn_narrowV {b : Nat} (w : World) (h : isn .f64 b = true) : isn .f32 (narrowV b w) = true := by
  unfold narrowV; rw [if_pos h]; exact cut_nanConv ..

/-- the sine of a 32-bit number of turns -/
def sinT (b : Nat) : Nat := if fin .f32 b then if far (wide b) then 0 else narrow (sinF (fr (wide b))) else qnan .f32
theorem fin_qnan (k : FloatKind) : fin k (qnan k) = false := fin_of_nan (isn_qnan k)
theorem sinT_nan {b : Nat} (h : fin .f32 b = false) : sinT (canon .f32 b) = qnan .f32 := by
  unfold sinT; rw [fin_canon, h]; rfl
theorem sinT_far {b : Nat} (h : fin .f32 b = true) (h2 : far (wide b) = true) : sinT (canon .f32 b) = 0 := by
  rw [canon_of_not (not_nan_of_fin h)]
  unfold sinT; rw [h, if_pos rfl, h2, if_pos rfl]
theorem sinT_near {b : Nat} (h : fin .f32 b = true) (h2 : far (wide b) = false) : sinT (canon .f32 b) = narrow (sinF (fr (wide b))) := by
  rw [canon_of_not (not_nan_of_fin h)]
  unfold sinT; rw [if_pos h, if_neg (by rw [h2]; decide)]
theorem sin_near {b : Nat} (h : fin .f32 b = true) (h2 : far (wide b) = false) : Bd .f64 52 (wide b) := near_bd (by rw [fin_wide, h]) h2

theorem far_spec {x : Nat} (h : fin .f64 x = true) :
    (FloatKind.f64.format.order x 4841369599423283200 == some .gt || FloatKind.f64.format.order x 4841369599423283200 == some .eq || (FloatKind.f64.format.order x 14064741636278059008 == some .lt || FloatKind.f64.format.order x 14064741636278059008 == some .eq)) = far x := by
  cases hd : FloatKind.f64.decode x with
  | nan s f => unfold fin at h; rw [hd] at h; cases h
  | infinity s => unfold fin at h; rw [hd] at h; cases h
  | number s m e => exact (far_parts hd).2

theorem wide_num {b : Nat} {s : Bool} {m : Nat} {e : Int} (h : FloatKind.f32.decode b = .number s m e) : ∃ t : Nat, FloatKind.f64.decode (wide b) = .number s (m * 2 ^ t) (e - t) := by
  obtain ⟨h1, h2, h3⟩ := f32_number h
  have hn : isn .f32 b = false := by unfold isn; rw [h]; rfl
  have hl : m.log2 ≤ 23 := by
    by_cases h0 : m = 0
    · rw [h0]; decide
    · have := (Nat.log2_lt h0 (k := 24)).2 (by have : (2 : Nat) ^ 24 = 16777216 := by decide
                                               omega)
      omega
  have hm : m < 2 ^ (52 + 1) := Nat.lt_of_le_of_lt h1 (by decide)
  obtain ⟨t, ht⟩ := read_exact fmt64 s (m := m) (e := e) hm (by omega) (by omega) (by decide)
  refine ⟨t, ?_⟩
  unfold wide
  rw [if_neg (by rw [hn]; decide), h]
  exact ht

end Go.Proofs.Ytpmjikchlofebaa
