/- Contracts of the functions on bits of numbers. No statement is proved here. -/
import Derived.Test.YtbgcelodgefanaaFloat
import Derived.Test.YtbgcelodgefanaaChecked
import Derived.Outline
namespace Go.Proofs.Ytbgcelodgefanaa
open Go Go.RowKit
@[go_sem] theorem ext_bits32 (b : Nat) (w : World) : (callFunc 69 #[.float .f32 b]).run Try.prog w = .ok (.value (.int .u32 b)) w := by
  rw [run_callFunc_extern Try.func69 (by kernel_rfl) (by kernel_rfl) (by kernel_rfl) (e := Extern.MathFloatBits.float32bits) (by kernel_rfl)]
  rfl
@[go_sem] theorem ext_from32 (n : Int) (w : World) : (callFunc 82 #[.int .u32 n]).run Try.prog w = .ok (.value (.float .f32 n.toNat)) w := by
  rw [run_callFunc_extern Try.func82 (by kernel_rfl) (by kernel_rfl) (by kernel_rfl) (e := Extern.MathFloatBits.float32frombits) (by kernel_rfl)]
  rfl
@[go_sem] theorem conv_wide (b : Nat) (w : World) : (convert 28 27 (.float .f32 b)).run Try.prog w = .ok (.float .f64 (wideV b w)) (w.drewN (wideN b)) :=
  run_wide w _ _ b (by kernel_rfl) (by kernel_rfl)
theorem isNaN_any (b : Nat) (w : World) :
    Calls Try.prog 53 #[.float .f64 b] w fun e w' => e = .returned (.bool (isn .f64 b)) ∧ w' = w := by
  go_enter Try.func53, Try.ntmps53
  go_wp2
  go_ret
  refine ⟨?_, rfl⟩
  rw [order_self]; cases isn .f64 b <;> rfl
theorem bitsOf_any (b : Nat) (w : World) (hb : canon .f32 b < 4294967296) :
    Calls Try.prog 51 #[.float .f32 b] w fun e w' => ∃ n, e = .returned (.int .i64 (canon .f32 b)) ∧ w' = w.drewN n := by
  cases hn : isn .f32 b
  · have hc := canon_of_not hn
    rw [hc] at hb ⊢
    clear hc
    have hw := isn_wideV b w
    rw [hn] at hw
    go_enter Try.func51, Try.ntmps51
    go_wp2_with fail
    refine (isNaN_any _ _).mono ?_
    rintro e w' ⟨rfl, rfl⟩
    go_wp2
    go_ret
    exact ⟨_, rfl, rfl⟩
  · have hc := canon_of_nan hn
    rw [hc]
    clear hc
    have hw := isn_wideV b w
    rw [hn] at hw
    go_enter Try.func51, Try.ntmps51
    go_wp2_with fail
    refine (isNaN_any _ _).mono ?_
    rintro e w' ⟨rfl, rfl⟩
    go_wp2
    go_ret
    exact ⟨_, rfl, rfl⟩
theorem l01Bits_any (b : Nat) (w : World) (hb : canon .f32 b < 4294967296) :
    Calls Try.prog 60 #[.float .f32 b] w fun e w' => e = .returned (.int .i64 (canon .f32 b)) ∧ w' = w := by
  cases hn : isn .f32 b
  · have hc := canon_of_not hn
    rw [hc] at hb ⊢
    have ho : FloatKind.f32.format.order b b = some .eq := by rw [order_self, hn]; rfl
    clear hc hn
    go_enter Try.func60, Try.ntmps60
    go_wp2
    go_ret
    exact ⟨rfl, rfl⟩
  · have hc := canon_of_nan hn
    rw [hc]
    have ho : FloatKind.f32.format.order b b = none := by rw [order_self, hn]; rfl
    clear hc hn
    go_enter Try.func60, Try.ntmps60
    go_wp2
    go_ret
    exact ⟨rfl, rfl⟩
/-- the answer of FromBits -/
def fromBits (n : Int) : Nat := if 0 ≤ n ∧ n ≤ 4294967295 then n.toNat else 0
theorem l01From_any (n : Int) (w : World) (h0 : 0 ≤ n) (h1 : n ≤ 4294967295) :
    Calls Try.prog 78 #[.int .i64 n] w fun e w' => e = .returned (.float .f32 n.toNat) ∧ w' = w := by
  go_enter Try.func78, Try.ntmps78
  go_wp2
  go_ret
  exact ⟨rfl, rfl⟩
theorem i_SameNumber (a b : Nat) (w : World) (ha : canon .f32 a < 4294967296) (hb : canon .f32 b < 4294967296) :
    Calls Try.prog 26 #[.float .f32 a, .float .f32 b] w fun e w' => ∃ n, e = .returned (.bool (decide (canon .f32 a = canon .f32 b))) ∧ w' = w.drewN n := by
  go_enter Try.func26, Try.ntmps26
  go_wp2_with fail
  refine (bitsOf_any a _ ha).mono ?_
  rintro e w' ⟨n, rfl, rfl⟩
  go_wp2_with fail
  refine (bitsOf_any b _ hb).mono ?_
  rintro e w' ⟨m, rfl, rfl⟩
  go_wp2
  go_ret
  exact ⟨_, ret_eqNat _ _, rfl⟩
theorem s_l01Same (a b : Nat) (w : World) (ha : canon .f32 a < 4294967296) (hb : canon .f32 b < 4294967296) :
    Calls Try.prog 41 #[.float .f32 a, .float .f32 b] w fun e w' => e = .returned (.bool (decide (canon .f32 a = canon .f32 b))) ∧ w' = w := by
  go_enter Try.func41, Try.ntmps41
  go_wp2_with fail
  refine (l01Bits_any a _ ha).mono ?_
  rintro e w' ⟨rfl, rfl⟩
  go_wp2_with fail
  refine (l01Bits_any b _ hb).mono ?_
  rintro e w' ⟨rfl, rfl⟩
  go_wp2
  go_ret
  exact ⟨ret_eqNat _ _, rfl⟩
theorem s_SameNumber (a b : Nat) (w : World) (ha : canon .f32 a < 4294967296) (hb : canon .f32 b < 4294967296) :
    Calls Try.prog 16 #[.float .f32 a, .float .f32 b] w fun e w' => e = .returned (.bool (decide (canon .f32 a = canon .f32 b))) ∧ w' = w := by
  go_enter Try.func16, Try.ntmps16
  go_wp2_with fail
  refine (s_l01Same a b _ ha hb).mono ?_
  rintro e w' ⟨rfl, rfl⟩
  go_wp2
  go_ret
  exact ⟨rfl, rfl⟩
theorem law_FnExactSameNumber (a b : Nat) (w : World) (ha0 : a < words .f32) (hb0 : b < words .f32) :
    Calls Try.prog 5 #[.float .f32 a, .float .f32 b] w fun e w' => e = .returned (.bool true) ∧ Grown w w' := by
  have ha : canon .f32 a < 4294967296 := canon_lt ha0
  have hb : canon .f32 b < 4294967296 := canon_lt hb0
  go_enter Try.func5, Try.ntmps5
  go_wp2_with fail
  refine (s_SameNumber _ _ _ ha hb).mono ?_
  rintro e w' ⟨rfl, rfl⟩
  go_wp2_with fail
  refine (i_SameNumber _ _ _ ha hb).mono ?_
  rintro e w' ⟨n, rfl, rfl⟩
  go_wp2
  go_ret
  exact ⟨rfl, grown_drewN _ _⟩
@[go_sem] theorem ext_bits64 (b : Nat) (w : World) : (callFunc 56 #[.float .f64 b]).run Try.prog w = .ok (.value (.int .u64 b)) w := by
  rw [run_callFunc_extern Try.func56 (by kernel_rfl) (by kernel_rfl) (by kernel_rfl) (e := Extern.MathFloatBits.float64bits) (by kernel_rfl)]
  rfl
@[go_sem] theorem ext_from64 (n : Int) (w : World) : (callFunc 55 #[.int .u64 n]).run Try.prog w = .ok (.value (.float .f64 n.toNat)) w := by
  rw [run_callFunc_extern Try.func55 (by kernel_rfl) (by kernel_rfl) (by kernel_rfl) (e := Extern.MathFloatBits.float64frombits) (by kernel_rfl)]
  rfl
theorem m_Abs (b : Nat) (w : World) (hb : b < 18446744073709551616) :
    Calls Try.prog 32 #[.float .f64 b] w fun e w' => e = .returned (.float .f64 (fabs b)) ∧ w' = w := by
  go_enter Try.func32, Try.ntmps32
  go_wp2
  go_ret
  exact ⟨by rw [← bits_fabs b hb]; rfl, rfl⟩
theorem m_IsInf (b : Nat) (w : World) (hb : b < 18446744073709551616) :
    Calls Try.prog 54 #[.float .f64 b, .int .i64 0] w fun e w' => e = .returned (.bool (infinite b)) ∧ w' = w := by
  go_enter Try.func54, Try.ntmps54
  go_wp2_with fail
  refine (m_Abs b _ hb).mono ?_
  rintro e w' ⟨rfl, rfl⟩
  go_wp2
  go_ret
  exact ⟨by rw [← infinite_iff]; rfl, rfl⟩
theorem i_isFinite64 (b : Nat) (w : World) (hb : b < 18446744073709551616) :
    Calls Try.prog 29 #[.float .f64 b] w fun e w' => e = .returned (.bool (fin .f64 b)) ∧ w' = w := by
  have hf := fin_infinite b
  cases hn : isn .f64 b
  · rw [hn] at hf
    go_enter Try.func29, Try.ntmps29
    go_wp2_with fail
    refine (isNaN_any b _).mono ?_
    rintro e w' ⟨rfl, rfl⟩
    go_wp2_with fail
    refine (m_IsInf b _ hb).mono ?_
    rintro e w' ⟨rfl, rfl⟩
    go_wp2
    go_ret
    exact ⟨by simpa using hf, rfl⟩
  · rw [hn] at hf
    go_enter Try.func29, Try.ntmps29
    go_wp2_with fail
    refine (isNaN_any b _).mono ?_
    rintro e w' ⟨rfl, rfl⟩
    go_wp2
    go_ret
    exact ⟨by simpa using hf, rfl⟩
theorem i_IsFinite (b : Nat) (w : World) :
    Calls Try.prog 28 #[.float .f32 b] w fun e w' => ∃ n, e = .returned (.bool (fin .f32 b)) ∧ w' = w.drewN n := by
  have hb := wideV_lt b w
  have hf := fin_wideV b w
  go_enter Try.func28, Try.ntmps28
  go_wp2_with fail
  refine (i_isFinite64 _ _ hb).mono ?_
  rintro e w' ⟨rfl, rfl⟩
  go_wp2
  go_ret
  exact ⟨_, by rw [← hf]; rfl, rfl⟩
theorem s_l01Finite (b : Nat) (w : World) :
    Calls Try.prog 52 #[.float .f32 b] w fun e w' => ∃ n, e = .returned (.bool (fin .f32 b)) ∧ w' = w.drewN n := by
  go_enter Try.func52, Try.ntmps52
  go_wp2
  go_ret
  exact ⟨_, by rw [← sub_self_zero b w]; rfl, rfl⟩
theorem s_IsFinite (b : Nat) (w : World) :
    Calls Try.prog 27 #[.float .f32 b] w fun e w' => ∃ n, e = .returned (.bool (fin .f32 b)) ∧ w' = w.drewN n := by
  go_enter Try.func27, Try.ntmps27
  go_wp2_with fail
  refine (s_l01Finite _ _).mono ?_
  rintro e w' ⟨n, rfl, rfl⟩
  go_wp2
  go_ret
  exact ⟨_, rfl, rfl⟩
theorem law_FnExactIsFinite (b : Nat) (w : World) (_hb0 : b < words .f32) :
    Calls Try.prog 6 #[.float .f32 b] w fun e w' => e = .returned (.bool true) ∧ Grown w w' := by
  go_enter Try.func6, Try.ntmps6
  go_wp2_with fail
  refine (s_IsFinite _ _).mono ?_
  rintro e w' ⟨n, rfl, rfl⟩
  go_wp2_with fail
  refine (i_IsFinite _ _).mono ?_
  rintro e w' ⟨m, rfl, rfl⟩
  go_wp2
  go_ret
  exact ⟨by simp, grown_drewN _ _⟩
end Go.Proofs.Ytbgcelodgefanaa
