/- Subnormal numbers: the mathematics and the contracts. No statement is proved here. -/
import Derived.Test.YtbgcelodgefanafBits
import Derived.Test.YtbgcelodgefanafSin
namespace Go.Proofs.Ytbgcelodgefanaf
open Go Go.RowKit

theorem f32_read (b : Nat) : FloatKind.f32.decode b = if b % 2147483648 < 8388608 then .number (b / 2147483648 % 2 == 1) (b % 2147483648) (-149)
    else if b % 2147483648 < 2139095040 then .number (b / 2147483648 % 2 == 1) (8388608 + b % 2147483648 % 8388608) (-149 + ((b % 2147483648 / 8388608 - 1 : Nat) : Int))
    else if b % 2147483648 = 2139095040 then .infinity (b / 2147483648 % 2 == 1)
    else .nan (b / 2147483648 % 2 == 1) (b % 2147483648 - 2139095040) := by
  unfold FloatKind.decode Ieee.Format.read
  rw [f32_sign, f32_binade, f32_inf, f32_least]

theorem c126_read : FloatKind.f64.decode 4039728865751334912 = .number false 4503599627370496 (-178) := by decide +kernel

theorem wide_number {b : Nat} {s : Bool} {m : Nat} {e : Int} (h : FloatKind.f32.decode b = .number s m e) : ∃ t : Nat, FloatKind.f64.decode (wide b) = .number s (m * 2 ^ t) (e - t) := by
  obtain ⟨h1, h2, h3⟩ := f32_number h
  have hn : isn .f32 b = false := by unfold isn; rw [h]; rfl
  have hl : m.log2 ≤ 23 := by
    by_cases h0 : m = 0
    · rw [h0]; decide
    · have := (Nat.log2_lt h0 (k := 24)).2 (by have : (2 : Nat) ^ 24 = 16777216 := by decide
                                               omega)
      omega
  have hm : m < 2 ^ (52 + 1) := Nat.lt_of_le_of_lt h1 (by decide)
  obtain ⟨t, ht⟩ := read_exact fmt64 s (m := m) (e := e) hm (by omega) (by omega) (by decide)
  refine ⟨t, ?_⟩
  unfold wide
  rw [if_neg (by rw [hn]; decide), h]
  exact ht

/-- what lies nearer to 0 than 2 to the power of -126 -/
theorem small_iff {b : Nat} (h : isn .f32 b = false) : (FloatKind.f64.format.order (fabs (wide b)) 4039728865751334912 == some .lt) = decide (b % 2147483648 < 8388608) := by
  have hr := f32_read b
  cases hd : FloatKind.f32.decode b with
  | nan s f => unfold isn at h; rw [hd] at h; cases h
  | infinity s =>
    have hw : wide b = FloatKind.f64.encode (.infinity s) := by unfold wide; rw [if_neg (by rw [h]; decide), hd]
    have h1 : ¬ b % 2147483648 < 8388608 := by
      intro hc; rw [if_pos hc, hd] at hr; cases hr
    rw [hw, decide_eq_false h1]
    cases s <;> decide +kernel
  | number s m e =>
    obtain ⟨t, ht⟩ := wide_number hd
    have ha : FloatKind.f64.decode (fabs (wide b)) = .number false (m * 2 ^ t) (e - t) := by rw [read_fabs, ht]; rfl
    rw [order_numbers ha c126_read, cmp_lt]
    simp only [Ieee.signed, Bool.false_eq_true, if_false, Nat.shiftLeft_eq]
    rw [decide_eq_decide]
    have hb : min (e - (t : Int)) (-178) ≤ -178 ∧ min (e - (t : Int)) (-178) ≤ e - t := ⟨by omega, by omega⟩
    generalize min (e - (t : Int)) (-178) = base at hb
    obtain ⟨hb1, hb2⟩ := hb
    have e1 : m * 2 ^ t * 2 ^ (e - (t : Int) - base).toNat = m * 2 ^ (e - base).toNat := by
      rw [Nat.mul_assoc, ← Nat.pow_add]; exact congrArg (fun x => m * 2 ^ x) (by omega)
    have e2 : 4503599627370496 * 2 ^ (-178 - base).toNat = 2 ^ (-126 - base).toNat := by
      rw [show (4503599627370496 : Nat) = 2 ^ 52 by decide, ← Nat.pow_add]; exact congrArg (fun x => 2 ^ x) (by omega)
    rw [e1, e2]
    by_cases hc : b % 2147483648 < 8388608
    · rw [if_pos hc, hd] at hr
      simp only [Ieee.Datum.number.injEq] at hr
      obtain ⟨-, rfl, rfl⟩ := hr
      have e3 : 2 ^ (-126 - base).toNat = 8388608 * 2 ^ (-149 - base).toNat := by
        rw [show (8388608 : Nat) = 2 ^ 23 by decide, ← Nat.pow_add]; exact congrArg (fun x => 2 ^ x) (by omega)
      rw [e3]
      have := Nat.mul_lt_mul_of_pos_right hc (Nat.two_pow_pos (-149 - base).toNat)
      exact ⟨fun _ => hc, fun _ => by exact_mod_cast this⟩
    · rw [if_neg hc] at hr
      split at hr
      · rw [hd] at hr
        simp only [Ieee.Datum.number.injEq] at hr
        obtain ⟨-, rfl, rfl⟩ := hr
        refine ⟨fun hl => ?_, fun hl => absurd hl hc⟩
        exfalso
        generalize hM : 8388608 + b % 2147483648 % 8388608 = M at hl
        have hM2 : 2 ^ 23 ≤ M := by have : (2 : Nat) ^ 23 = 8388608 := by decide
                                    omega
        generalize hE : (-149 + ((b % 2147483648 / 8388608 - 1 : Nat) : Int)) = E at *
        have hE2 : -149 ≤ E := by omega
        have e3 : 2 ^ (-126 - base).toNat ≤ 2 ^ 23 * 2 ^ (E - base).toNat := by
          rw [← Nat.pow_add]; exact Nat.pow_le_pow_right (by decide) (by omega)
        have e4 := Nat.mul_le_mul_right (2 ^ (E - base).toNat) hM2
        have hl' : M * 2 ^ (E - base).toNat < 2 ^ (-126 - base).toNat := by exact_mod_cast hl
        omega
      · split at hr <;> (rw [hd] at hr; cases hr)

theorem zero_iff {b : Nat} (h : isn .f32 b = false) : (FloatKind.f32.format.order b 0 == some .eq) = decide (b % 2147483648 = 0) := by
  have hr := f32_read b
  have hz : FloatKind.f32.decode 0 = .number false 0 (-149) := by decide +kernel
  cases hd : FloatKind.f32.decode b with
  | nan s f => unfold isn at h; rw [hd] at h; cases h
  | infinity s =>
    have h1 : ¬ b % 2147483648 = 0 := by
      intro hc; rw [hc, if_pos (by decide), hd] at hr; cases hr
    rw [decide_eq_false h1]
    have d1 : FloatKind.f32.format.read b = .infinity s := hd
    have d2 : FloatKind.f32.format.read 0 = .number false 0 (-149) := hz
    unfold Ieee.Format.order
    rw [d1, d2]; cases s <;> rfl
  | number s m e =>
    rw [order_numbers hd hz, cmp_eq, decide_eq_decide]
    simp only [Ieee.signed, Bool.false_eq_true, if_false, Nat.shiftLeft_eq, Nat.zero_mul]
    have hp : 0 < 2 ^ (e - min e (-149)).toNat := Nat.two_pow_pos _
    have h0 : m = 0 ↔ b % 2147483648 = 0 := by
      by_cases hc : b % 2147483648 < 8388608
      · rw [if_pos hc, hd] at hr
        simp only [Ieee.Datum.number.injEq] at hr
        obtain ⟨-, rfl, -⟩ := hr
        exact Iff.rfl
      · rw [if_neg hc] at hr
        split at hr
        · rw [hd] at hr
          simp only [Ieee.Datum.number.injEq] at hr
          obtain ⟨-, rfl, -⟩ := hr
          omega
        · split at hr <;> (rw [hd] at hr; cases hr)
    rw [← h0]
    generalize 2 ^ (e - min e (-149)).toNat = B at hp
    have hm : m * B = 0 ↔ m = 0 := ⟨fun hh => by rcases Nat.mul_eq_zero.1 hh with h | h <;> omega, fun hh => by rw [hh, Nat.zero_mul]⟩
    rw [← hm]
    generalize m * B = A
    cases s <;> simp <;> omega

/-- the places of the exponent -/
theorem mask_eq (b : Nat) : b &&& 2139095040 = (b / 8388608 % 256) * 8388608 := by
  have e : (2139095040 : Nat) = 255 <<< 23 := by decide
  have e2 : (b / 8388608 % 256) * 8388608 = (b >>> 23 &&& 255) <<< 23 := by
    rw [Nat.shiftLeft_eq, Nat.shiftRight_eq_div_pow, show (255 : Nat) = 2 ^ 8 - 1 by decide, Nat.and_two_pow_sub_one_eq_mod]
  rw [e2, e]
  refine Nat.eq_of_testBit_eq fun i => ?_
  rw [Nat.testBit_and, Nat.testBit_shiftLeft, Nat.testBit_shiftLeft, Nat.testBit_and, Nat.testBit_shiftRight]
  by_cases h : 23 ≤ i
  · rw [show 23 + (i - 23) = i by omega]; simp [h]
  · simp [h]

theorem bits_and_i64_nat (a b : Nat) (ha : a < 4294967296) (hb : b < 4294967296) : bits .and .i64 (a : Int) (b : Int) = ((a &&& b : Nat) : Int) := by
  have hx : a &&& b < 2 ^ 32 := Nat.and_lt_two_pow _ (by omega)
  have h1 : (BitVec.ofInt 64 (a : Int)).toNat = a := by
    rw [BitVec.ofInt_natCast, BitVec.toNat_ofNat]; exact Nat.mod_eq_of_lt (by omega)
  have h2 : (BitVec.ofInt 64 (b : Int)).toNat = b := by
    rw [BitVec.ofInt_natCast, BitVec.toNat_ofNat]; exact Nat.mod_eq_of_lt (by omega)
  show IntKind.i64.wrap ((BitVec.ofInt 64 (a : Int) &&& BitVec.ofInt 64 (b : Int)).toNat : Int) = _
  rw [BitVec.toNat_and, h1, h2]
  generalize a &&& b = c at hx
  exact IntWalk.i64_in _ (by have : (2 : Nat) ^ 32 = 4294967296 := by decide
                             omega)


theorem mask_zero {c : Nat} (h : c < 4294967296) : (bits .and .i64 (c : Int) 2139095040 == 0) = decide (c % 2147483648 < 8388608) := by
  have e := bits_and_i64_nat c 2139095040 h (by decide)
  rw [show ((2139095040 : Nat) : Int) = 2139095040 by rfl] at e
  rw [e, mask_eq, Bool.eq_iff_iff, beq_iff_eq, decide_eq_true_eq]
  omega
theorem mask_sign {c : Nat} (h : c < 4294967296) : bits .and .i64 (c : Int) 2147483648 = ((c / 2147483648 * 2147483648 : Nat) : Int) := by
  have e := bits_and_i64_nat c 2147483648 h (by decide)
  rw [show ((2147483648 : Nat) : Int) = 2147483648 by rfl] at e
  rw [e]
  have e2 : c &&& 2147483648 = c / 2147483648 * 2147483648 := by
    have e3 : (2147483648 : Nat) = 1 <<< 31 := by decide
    have e4 : c / 2147483648 * 2147483648 = (c >>> 31 &&& 1) <<< 31 := by
      rw [Nat.shiftLeft_eq, Nat.shiftRight_eq_div_pow, show (1 : Nat) = 2 ^ 1 - 1 by decide, Nat.and_two_pow_sub_one_eq_mod]
      have : (2 : Nat) ^ 31 = 2147483648 := by decide
      rw [this]; omega
    rw [e4]
    conv => lhs; rw [e3]
    refine Nat.eq_of_testBit_eq fun i => ?_
    rw [Nat.testBit_and, Nat.testBit_shiftLeft, Nat.testBit_shiftLeft, Nat.testBit_and, Nat.testBit_shiftRight]
    by_cases h : 31 ≤ i
    · rw [show 31 + (i - 31) = i by omega]; simp [h]
    · simp [h]
  rw [e2]

/-- subnormal, or a zero -/
def tiny (b : Nat) : Bool := decide (b % 2147483648 < 8388608)
def isSub (b : Nat) : Bool := FloatKind.f32.format.order b 0 != some .eq && tiny (canon .f32 b)
theorem tiny_qnan : tiny (qnan .f32) = false := by decide
theorem i_IsSubnormal (b : Nat) (w : World) :
    Calls Try.prog 13 #[.float .f32 b] w fun e w' => ∃ n, e = .returned (.bool (isSub b)) ∧ w' = w.drewN n := by
  have hlt := wideV_lt b w
  cases hz : FloatKind.f32.format.order b 0 != some .eq
  · go_enter Try.func13, Try.ntmps13
    go_wp2
    go_ret
    exact ⟨0, by unfold isSub; rw [hz]; rfl, rfl⟩
  · have hs : (FloatKind.f64.format.order (fabs (wideV b w)) 4039728865751334912 == some .lt) = tiny (canon .f32 b) := by
      cases hn : isn .f32 b
      · rw [(wide_sure hn).1, canon_of_not hn]; exact small_iff hn
      · rw [canon_of_nan hn, tiny_qnan, order_nan_left (by rw [isn_fabs, isn_wideV, hn])]; rfl
    have HS := Lib.hid hs; clear hs
    have HZ : Hid (isSub b = tiny (canon .f32 b)) := Lib.hid (by unfold isSub; rw [hz]; rfl)
    go_enter Try.func13, Try.ntmps13
    go_wp2_with fail
    refine (m_Abs _ _ hlt).mono ?_
    rintro e w' ⟨rfl, rfl⟩
    go_wp2
    go_ret
    exact ⟨_, by rw [HZ.out, ← HS.out]; rfl, rfl⟩
theorem s_IsSubnormal (b : Nat) (w : World) (hb : b < 4294967296) :
    Calls Try.prog 12 #[.float .f32 b] w fun e w' => e = .returned (.bool (isSub b)) ∧ w' = w := by
  have hc : canon .f32 b < 4294967296 := canon_lt (k := .f32) hb
  cases hz : FloatKind.f32.format.order b 0 != some .eq
  · go_enter Try.func12, Try.ntmps12
    go_wp2
    go_ret
    exact ⟨by unfold isSub; rw [hz]; rfl, rfl⟩
  · have HS := Lib.hid (mask_zero hc); clear hb
    have HZ : Hid (isSub b = tiny (canon .f32 b)) := Lib.hid (by unfold isSub; rw [hz]; rfl)
    go_enter Try.func12, Try.ntmps12
    go_wp2_with fail
    refine (l01Bits_any b _ hc).mono ?_
    rintro e w' ⟨rfl, rfl⟩
    go_wp2
    go_ret
    exact ⟨by rw [HZ.out]; unfold tiny; rw [← HS.out]; rfl, rfl⟩
theorem law_FnExactIsSubnormal (b : Nat) (w : World) (hb : b < words .f32) :
    Calls Try.prog 5 #[.float .f32 b] w fun e w' => e = .returned (.bool true) ∧ Grown w w' := by
  go_enter Try.func5, Try.ntmps5
  go_wp2_with fail
  refine (s_IsSubnormal b _ hb).mono ?_
  rintro e w' ⟨rfl, rfl⟩
  go_wp2_with fail
  refine (i_IsSubnormal b _).mono ?_
  rintro e w' ⟨n, rfl, rfl⟩
  go_wp2
  go_ret
  exact ⟨by simp, grown_drewN _ _⟩
/-- flushed -/
def flushB (b : Nat) : Nat := if isSub b then b / 2147483648 * 2147483648 else b
theorem flush_yes {b : Nat} (h : isSub b = true) : flushB b = b / 2147483648 * 2147483648 := by unfold flushB; rw [h]; rfl
theorem flush_no {b : Nat} (h : isSub b = false) : flushB b = b := by unfold flushB; rw [h]; rfl
theorem isSub_not_nan {b : Nat} (h : isSub b = true) : isn .f32 b = false := by
  cases hn : isn .f32 b
  · rfl
  · unfold isSub at h; rw [canon_of_nan hn, tiny_qnan, Bool.and_false] at h; cases h
theorem f64_word (s : Bool) {r : Nat} (h : r < 9223372036854775808) : FloatKind.f64.format.word s r / 9223372036854775808 = s.toNat := by
  unfold Ieee.Format.word
  rw [f64_sign]
  cases s
  · simp; omega
  · simp; omega
theorem write_sign (d : Ieee.Datum) (h : d.isNaN = false) : FloatKind.f64.encode d / 9223372036854775808 = d.neg.toNat := by
  have hi := FloatKind.f64.format.infRung_lt
  rw [f64_sign] at hi
  cases d with
  | number s m e =>
    show FloatKind.f64.format.nearest s m e / _ = s.toNat
    unfold Ieee.Format.nearest
    split
    · exact f64_word s (by decide)
    · exact f64_word s (Nat.lt_of_le_of_lt (Nat.min_le_right ..) hi)
  | infinity s => exact f64_word s hi
  | nan s f => cases h
theorem wide_sign {b : Nat} (hb : b < 4294967296) (hn : isn .f32 b = false) : wide b / 9223372036854775808 = b / 2147483648 := by
  have hr := f32_read b
  have e : wide b = FloatKind.f64.encode (FloatKind.f32.decode b) := by unfold wide; rw [if_neg (by rw [hn]; decide)]
  rw [e, write_sign _ hn]
  have h2 : (FloatKind.f32.decode b).neg = (b / 2147483648 % 2 == 1) := by
    rw [hr]; split
    · rfl
    · split
      · rfl
      · split <;> rfl
  rw [h2]
  rcases (by omega : b / 2147483648 = 0 ∨ b / 2147483648 = 1) with h | h <;> rw [h] <;> rfl
theorem bits_sign64 (b : Nat) (hb : b < 18446744073709551616) : bits .and .u64 (b : Int) 9223372036854775808 = ((b / 9223372036854775808 * 9223372036854775808 : Nat) : Int) := by
  have e := bits_and_u64_nat b 9223372036854775808 hb (by decide)
  rw [show ((9223372036854775808 : Nat) : Int) = 9223372036854775808 by rfl] at e
  rw [e]
  have e2 : b &&& 9223372036854775808 = b / 9223372036854775808 * 9223372036854775808 := by
    have e3 : (9223372036854775808 : Nat) = 1 <<< 63 := by decide
    have e4 : b / 9223372036854775808 * 9223372036854775808 = (b >>> 63 &&& 1) <<< 63 := by
      rw [Nat.shiftLeft_eq, Nat.shiftRight_eq_div_pow, show (1 : Nat) = 2 ^ 1 - 1 by decide, Nat.and_two_pow_sub_one_eq_mod]
      have : (2 : Nat) ^ 63 = 9223372036854775808 := by decide
      rw [this]; omega
    rw [e4]
    conv => lhs; rw [e3]
    refine Nat.eq_of_testBit_eq fun i => ?_
    rw [Nat.testBit_and, Nat.testBit_shiftLeft, Nat.testBit_shiftLeft, Nat.testBit_and, Nat.testBit_shiftRight]
    by_cases h : 63 ≤ i
    · rw [show 63 + (i - 63) = i by omega]; simp [h]
    · simp [h]
  rw [e2]
/-- the zero with the sign of x, as a 64-bit number -/
def zero64 (b : Nat) : Nat := b / 9223372036854775808 * 9223372036854775808
theorem bits_or_zero (x : Int) (h0 : 0 ≤ x) (h1 : x < 18446744073709551616) : bits .or .u64 (bits .andNot .u64 0 9223372036854775808) x = x := by
  have e0 : bits .andNot .u64 0 9223372036854775808 = ((0 : Nat) : Int) := by decide +kernel
  obtain ⟨n, rfl⟩ := Int.eq_ofNat_of_zero_le h0
  rw [e0, bits_or_u64_nat 0 n (by decide) (by omega), Nat.zero_or]
theorem m_Copysign (b : Nat) (w : World) (hb : b < 18446744073709551616) :
    Calls Try.prog 22 #[.float .f64 0, .float .f64 b] w fun e w' => e = .returned (.float .f64 (zero64 b)) ∧ w' = w := by
  have e : (bits .or .u64 (bits .andNot .u64 0 9223372036854775808) (bits .and .u64 (b : Int) 9223372036854775808)).toNat = zero64 b := by
    have h : b / 9223372036854775808 * 9223372036854775808 < 18446744073709551616 := by omega
    rw [bits_sign64 b hb, bits_or_zero _ (by omega) (by omega)]
    rfl
  have HE := Lib.hid e; clear e
  go_enter Try.func22, Try.ntmps22
  go_wp2
  go_ret
  exact ⟨by rw [← HE.out]; rfl, rfl⟩
theorem i_FlushNumber (b : Nat) (w : World) (hb : b < 4294967296) :
    Calls Try.prog 15 #[.float .f32 b] w fun e w' => ∃ n, e = .returned (.float .f32 (flushB b)) ∧ w' = w.drewN n := by
  cases hs : isSub b
  · rw [flush_no hs]
    have HS := Lib.hid hs; clear hs
    go_enter Try.func15, Try.ntmps15
    go_wp2_with fail
    refine (i_IsSubnormal b _).mono ?_
    rw [HS.out]
    rintro e w' ⟨n, rfl, rfl⟩
    go_wp2
    go_ret
    exact ⟨_, rfl, rfl⟩
  · rw [flush_yes hs]
    have hn := isSub_not_nan hs
    obtain ⟨w1, w2⟩ := wide_sure hn
    have hlt := wide_lt b
    have hz : zero64 (wide b) = b / 2147483648 * 9223372036854775808 := by unfold zero64; rw [wide_sign hb hn]
    have hnar : (∀ w, narrowV (zero64 (wide b)) w = b / 2147483648 * 2147483648) ∧ narrowN (zero64 (wide b)) = 0 := by
      rw [hz]
      rcases (by omega : b / 2147483648 = 0 ∨ b / 2147483648 = 1) with h | h <;> rw [h]
      · exact narrow_sure (b := 0) (by decide +kernel) (by decide +kernel)
      · exact narrow_sure (b := 9223372036854775808) (by decide +kernel) (by decide +kernel)
    obtain ⟨n1, n2⟩ := hnar
    have HS := Lib.hid hs; clear hs hz hn
    go_enter Try.func15, Try.ntmps15
    go_wp2_with fail
    refine (i_IsSubnormal b _).mono ?_
    rw [HS.out]
    rintro e w' ⟨n, rfl, rfl⟩
    go_wp2_with fail
    refine (m_Copysign _ _ hlt).mono ?_
    rintro e w' ⟨rfl, rfl⟩
    go_wp2
    go_ret
    exact ⟨_, rfl, rfl⟩
theorem s_l01Flush (b : Nat) (w : World) (hb : b < 4294967296) :
    Calls Try.prog 21 #[.float .f32 b] w fun e w' => e = .returned (.float .f32 (flushB b)) ∧ w' = w := by
  have hc : canon .f32 b < 4294967296 := canon_lt (k := .f32) hb
  have hm := mask_zero hc
  cases ht : tiny (canon .f32 b)
  · have hs : isSub b = false := by unfold isSub; rw [ht, Bool.and_false]
    rw [flush_no hs]
    have ht' := ht
    unfold tiny at ht'
    rw [ht'] at hm
    clear ht ht' hs
    go_enter Try.func21, Try.ntmps21
    go_wp2_with fail
    refine (l01Bits_any b _ hc).mono ?_
    rintro e w' ⟨rfl, rfl⟩
    go_wp2
    go_ret
    exact ⟨rfl, rfl⟩
  · have hn : isn .f32 b = false := by
      cases hn : isn .f32 b
      · rfl
      · rw [canon_of_nan hn, tiny_qnan] at ht; cases ht
    have hcb := canon_of_not hn
    have hf : flushB b = canon .f32 b / 2147483648 * 2147483648 := by
      cases hs : isSub b
      · have hz := zero_iff hn
        rw [flush_no hs]
        unfold isSub at hs
        rw [ht, Bool.and_true, bne, hz] at hs
        have : b % 2147483648 = 0 := by simpa using hs
        rw [hcb]; omega
      · rw [flush_yes hs, hcb]
    rw [hf]
    have hsg := mask_sign hc
    have hlow : canon .f32 b / 2147483648 * 2147483648 ≤ 4294967295 := by omega
    have ht' := ht
    unfold tiny at ht'
    rw [ht'] at hm
    clear ht ht' hf hcb hn
    have HC := Lib.hid hc
    clear hc
    generalize hG : canon .f32 b / 2147483648 * 2147483648 = g at *
    clear hG
    go_enter Try.func21, Try.ntmps21
    go_wp2_with fail
    refine (l01Bits_any b _ HC.out).mono ?_
    rintro e w' ⟨rfl, rfl⟩
    go_wp2_with fail
    refine (l01From_any (g : Int) _ (by omega) (by omega)).mono ?_
    rintro e w' ⟨rfl, rfl⟩
    go_wp2
    go_ret
    exact ⟨rfl, rfl⟩
theorem s_FlushNumber (b : Nat) (w : World) (hb : b < 4294967296) :
    Calls Try.prog 14 #[.float .f32 b] w fun e w' => e = .returned (.float .f32 (flushB b)) ∧ w' = w := by
  go_enter Try.func14, Try.ntmps14
  go_wp2_with fail
  refine (s_l01Flush b _ hb).mono ?_
  rintro e w' ⟨rfl, rfl⟩
  go_wp2
  go_ret
  exact ⟨rfl, rfl⟩
theorem law_FnExactFlushNumber (b : Nat) (w : World) (hb : b < words .f32) :
    Calls Try.prog 6 #[.float .f32 b] w fun e w' => e = .returned (.bool true) ∧ Grown w w' := by
  go_enter Try.func6, Try.ntmps6
  go_wp2_with fail
  refine (s_FlushNumber b _ hb).mono ?_
  rintro e w' ⟨rfl, rfl⟩
  go_wp2_with fail
  refine (i_FlushNumber b _ hb).mono ?_
  rintro e w' ⟨n, rfl, rfl⟩
  go_wp2_with fail
  refine (sameFloat_yes _ _ _ (by rw [canon_wideV, canon_wideV])).mono ?_
  rintro e w' ⟨m, rfl, rfl⟩
  go_wp2
  go_ret
  exact ⟨rfl, grown_drewN _ _⟩
end Go.Proofs.Ytbgcelodgefanaf
