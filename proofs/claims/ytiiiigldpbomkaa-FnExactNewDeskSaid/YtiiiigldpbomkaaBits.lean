/- Contracts of the functions on bits of numbers. No statement is proved here. -/
import Derived.Test.YtiiiigldpbomkaaFloat
import Derived.Test.YtiiiigldpbomkaaChecked
import Derived.Outline
namespace Go.Proofs.Ytiiiigldpbomkaa
open Go Go.RowKit
@[go_sem] theorem ext_bits32 (b : Nat) (w : World) : (callFunc 222 #[.float .f32 b]).run Try.prog w = .ok (.value (.int .u32 b)) w := by
  rw [run_callFunc_extern Try.func222 (by kernel_rfl) (by kernel_rfl) (by kernel_rfl) (e := Extern.MathFloatBits.float32bits) (by kernel_rfl)]
  rfl
@[go_sem] theorem conv_wide (b : Nat) (w : World) : (convert 25 59 (.float .f32 b)).run Try.prog w = .ok (.float .f64 (wideV b w)) (w.drewN (wideN b)) :=
  run_wide w _ _ b (by kernel_rfl) (by kernel_rfl)
@[go_sem] theorem conv_narrow (b : Nat) (w : World) : (convert 59 25 (.float .f64 b)).run Try.prog w = .ok (.float .f32 (narrowV b w)) (w.drewN (narrowN b)) :=
  run_narrow w _ _ b (by kernel_rfl) (by kernel_rfl)
theorem isNaN_any (b : Nat) (w : World) :
    Calls Try.prog 219 #[.float .f64 b] w fun e w' => e = .returned (.bool (isn .f64 b)) ∧ w' = w := by
  go_enter Try.func219, Try.ntmps219
  go_wp2
  go_ret
  refine ⟨?_, rfl⟩
  rw [order_self]; cases isn .f64 b <;> rfl
theorem bitsOf_any (b : Nat) (w : World) (hb : canon .f32 b < 4294967296) :
    Calls Try.prog 212 #[.float .f32 b] w fun e w' => ∃ n, e = .returned (.int .i64 (canon .f32 b)) ∧ w' = w.drewN n := by
  cases hn : isn .f32 b
  · have hc := canon_of_not hn
    rw [hc] at hb ⊢
    clear hc
    have hw := isn_wideV b w
    rw [hn] at hw
    go_enter Try.func212, Try.ntmps212
    go_wp2_with fail
    refine (isNaN_any _ _).mono ?_
    rintro e w' ⟨rfl, rfl⟩
    go_wp2
    go_ret
    exact ⟨_, rfl, rfl⟩
  · have hc := canon_of_nan hn
    rw [hc]
    clear hc
    have hw := isn_wideV b w
    rw [hn] at hw
    go_enter Try.func212, Try.ntmps212
    go_wp2_with fail
    refine (isNaN_any _ _).mono ?_
    rintro e w' ⟨rfl, rfl⟩
    go_wp2
    go_ret
    exact ⟨_, rfl, rfl⟩
theorem l01Bits_any (b : Nat) (w : World) (hb : canon .f32 b < 4294967296) :
    Calls Try.prog 210 #[.float .f32 b] w fun e w' => e = .returned (.int .i64 (canon .f32 b)) ∧ w' = w := by
  cases hn : isn .f32 b
  · have hc := canon_of_not hn
    rw [hc] at hb ⊢
    have ho : FloatKind.f32.format.order b b = some .eq := by rw [order_self, hn]; rfl
    clear hc hn
    go_enter Try.func210, Try.ntmps210
    go_wp2
    go_ret
    exact ⟨rfl, rfl⟩
  · have hc := canon_of_nan hn
    rw [hc]
    have ho : FloatKind.f32.format.order b b = none := by rw [order_self, hn]; rfl
    clear hc hn
    go_enter Try.func210, Try.ntmps210
    go_wp2
    go_ret
    exact ⟨rfl, rfl⟩
/-- the answer of FromBits -/
def fromBits (n : Int) : Nat := if 0 ≤ n ∧ n ≤ 4294967295 then n.toNat else 0
theorem l00In_any (n a b : Int) (w : World) :
    Calls Try.prog 71 #[.int .i64 n, .int .i64 a, .int .i64 b] w fun e w' => e = .returned (.bool (decide (a ≤ n ∧ n ≤ b))) ∧ w' = w := by
  by_cases h : a ≤ n
  · go_enter Try.func71, Try.ntmps71
    go_wp2
    go_ret
    exact ⟨by simp [h], rfl⟩
  · go_enter Try.func71, Try.ntmps71
    go_wp2
    go_ret
    exact ⟨by simp; omega, rfl⟩
/-- sameFloat says yes of the same numbers. -/
theorem sameFloat_yes (a b : Nat) (w : World) (h : canon .f64 a = canon .f64 b) :
    Calls Try.prog 36 #[.float .f64 a, .float .f64 b] w fun e w' => ∃ n, e = .returned (.bool true) ∧ w' = w.drewN n := by
  have hi := isn_of_canon h
  cases hn : isn .f64 a
  · rw [hn] at hi
    rw [canon_of_not hn, canon_of_not hi.symm] at h
    subst h
    have ho : FloatKind.f64.format.order a a = some .eq := by rw [order_self, hn]; rfl
    clear hi hn
    cases hz : FloatKind.f64.format.order a 0 == some .eq
    · go_enter Try.func36, Try.ntmps36
      go_wp2
      go_ret
      exact ⟨0, rfl, rfl⟩
    · go_enter Try.func36, Try.ntmps36
      go_wp2
      go_ret
      exact ⟨_, by simp [order_fopV_l], rfl⟩
  · rw [hn] at hi
    have ho : FloatKind.f64.format.order a a = none := by rw [order_self, hn]; rfl
    have ho' : FloatKind.f64.format.order b b = none := by rw [order_self, ← hi]; rfl
    clear hi hn
    go_enter Try.func36, Try.ntmps36
    go_wp2
    go_ret
    exact ⟨0, rfl, rfl⟩
theorem i_SameNumber (a b : Nat) (w : World) (ha : canon .f32 a < 4294967296) (hb : canon .f32 b < 4294967296) :
    Calls Try.prog 184 #[.float .f32 a, .float .f32 b] w fun e w' => ∃ n, e = .returned (.bool (decide (canon .f32 a = canon .f32 b))) ∧ w' = w.drewN n := by
  go_enter Try.func184, Try.ntmps184
  go_wp2_with fail
  refine (bitsOf_any a _ ha).mono ?_
  rintro e w' ⟨n, rfl, rfl⟩
  go_wp2_with fail
  refine (bitsOf_any b _ hb).mono ?_
  rintro e w' ⟨m, rfl, rfl⟩
  go_wp2
  go_ret
  exact ⟨_, ret_eqNat _ _, rfl⟩
theorem s_l01Same (a b : Nat) (w : World) (ha : canon .f32 a < 4294967296) (hb : canon .f32 b < 4294967296) :
    Calls Try.prog 177 #[.float .f32 a, .float .f32 b] w fun e w' => e = .returned (.bool (decide (canon .f32 a = canon .f32 b))) ∧ w' = w := by
  go_enter Try.func177, Try.ntmps177
  go_wp2_with fail
  refine (l01Bits_any a _ ha).mono ?_
  rintro e w' ⟨rfl, rfl⟩
  go_wp2_with fail
  refine (l01Bits_any b _ hb).mono ?_
  rintro e w' ⟨rfl, rfl⟩
  go_wp2
  go_ret
  exact ⟨ret_eqNat _ _, rfl⟩
@[go_sem] theorem ext_bits64 (b : Nat) (w : World) : (callFunc 224 #[.float .f64 b]).run Try.prog w = .ok (.value (.int .u64 b)) w := by
  rw [run_callFunc_extern Try.func224 (by kernel_rfl) (by kernel_rfl) (by kernel_rfl) (e := Extern.MathFloatBits.float64bits) (by kernel_rfl)]
  rfl
@[go_sem] theorem ext_from64 (n : Int) (w : World) : (callFunc 223 #[.int .u64 n]).run Try.prog w = .ok (.value (.float .f64 n.toNat)) w := by
  rw [run_callFunc_extern Try.func223 (by kernel_rfl) (by kernel_rfl) (by kernel_rfl) (e := Extern.MathFloatBits.float64frombits) (by kernel_rfl)]
  rfl
theorem m_Abs (b : Nat) (w : World) (hb : b < 18446744073709551616) :
    Calls Try.prog 216 #[.float .f64 b] w fun e w' => e = .returned (.float .f64 (fabs b)) ∧ w' = w := by
  go_enter Try.func216, Try.ntmps216
  go_wp2
  go_ret
  exact ⟨by rw [← bits_fabs b hb]; rfl, rfl⟩
theorem m_IsInf (b : Nat) (w : World) (hb : b < 18446744073709551616) :
    Calls Try.prog 220 #[.float .f64 b, .int .i64 0] w fun e w' => e = .returned (.bool (infinite b)) ∧ w' = w := by
  go_enter Try.func220, Try.ntmps220
  go_wp2_with fail
  refine (m_Abs b _ hb).mono ?_
  rintro e w' ⟨rfl, rfl⟩
  go_wp2
  go_ret
  exact ⟨by rw [← infinite_iff]; rfl, rfl⟩
theorem i_isFinite64 (b : Nat) (w : World) (hb : b < 18446744073709551616) :
    Calls Try.prog 203 #[.float .f64 b] w fun e w' => e = .returned (.bool (fin .f64 b)) ∧ w' = w := by
  have hf := fin_infinite b
  cases hn : isn .f64 b
  · rw [hn] at hf
    go_enter Try.func203, Try.ntmps203
    go_wp2_with fail
    refine (isNaN_any b _).mono ?_
    rintro e w' ⟨rfl, rfl⟩
    go_wp2_with fail
    refine (m_IsInf b _ hb).mono ?_
    rintro e w' ⟨rfl, rfl⟩
    go_wp2
    go_ret
    exact ⟨by simpa using hf, rfl⟩
  · rw [hn] at hf
    go_enter Try.func203, Try.ntmps203
    go_wp2_with fail
    refine (isNaN_any b _).mono ?_
    rintro e w' ⟨rfl, rfl⟩
    go_wp2
    go_ret
    exact ⟨by simpa using hf, rfl⟩
theorem i_IsFinite (b : Nat) (w : World) :
    Calls Try.prog 158 #[.float .f32 b] w fun e w' => ∃ n, e = .returned (.bool (fin .f32 b)) ∧ w' = w.drewN n := by
  have hb := wideV_lt b w
  have hf := fin_wideV b w
  go_enter Try.func158, Try.ntmps158
  go_wp2_with fail
  refine (i_isFinite64 _ _ hb).mono ?_
  rintro e w' ⟨rfl, rfl⟩
  go_wp2
  go_ret
  exact ⟨_, by rw [← hf]; rfl, rfl⟩
theorem s_l01Finite (b : Nat) (w : World) :
    Calls Try.prog 93 #[.float .f32 b] w fun e w' => ∃ n, e = .returned (.bool (fin .f32 b)) ∧ w' = w.drewN n := by
  go_enter Try.func93, Try.ntmps93
  go_wp2
  go_ret
  exact ⟨_, by rw [← sub_self_zero b w]; rfl, rfl⟩
end Go.Proofs.Ytiiiigldpbomkaa
