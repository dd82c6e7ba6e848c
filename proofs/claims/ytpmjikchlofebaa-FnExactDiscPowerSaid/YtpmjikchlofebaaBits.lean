/- Contracts of the functions on bits of numbers. No statement is proved here. -/
import Derived.Test.YtpmjikchlofebaaFloat
import Derived.Test.YtpmjikchlofebaaChecked
import Derived.Outline
namespace Go.Proofs.Ytpmjikchlofebaa
open Go Go.RowKit
@[go_sem] theorem ext_from32 (n : Int) (w : World) : (callFunc 181 #[.int .u32 n]).run Try.prog w = .ok (.value (.float .f32 n.toNat)) w := by
  rw [run_callFunc_extern Try.func181 (by kernel_rfl) (by kernel_rfl) (by kernel_rfl) (e := Extern.MathFloatBits.float32frombits) (by kernel_rfl)]
  rfl
@[go_sem] theorem conv_wide (b : Nat) (w : World) : (convert 22 30 (.float .f32 b)).run Try.prog w = .ok (.float .f64 (wideV b w)) (w.drewN (wideN b)) :=
  run_wide w _ _ b (by kernel_rfl) (by kernel_rfl)
@[go_sem] theorem conv_narrow (b : Nat) (w : World) : (convert 30 22 (.float .f64 b)).run Try.prog w = .ok (.float .f32 (narrowV b w)) (w.drewN (narrowN b)) :=
  run_narrow w _ _ b (by kernel_rfl) (by kernel_rfl)
theorem isNaN_any (b : Nat) (w : World) :
    Calls Try.prog 174 #[.float .f64 b] w fun e w' => e = .returned (.bool (isn .f64 b)) ∧ w' = w := by
  go_enter Try.func174, Try.ntmps174
  go_wp2
  go_ret
  refine ⟨?_, rfl⟩
  rw [order_self]; cases isn .f64 b <;> rfl
/-- the answer of FromBits -/
def fromBits (n : Int) : Nat := if 0 ≤ n ∧ n ≤ 4294967295 then n.toNat else 0
theorem l00In_any (n a b : Int) (w : World) :
    Calls Try.prog 58 #[.int .i64 n, .int .i64 a, .int .i64 b] w fun e w' => e = .returned (.bool (decide (a ≤ n ∧ n ≤ b))) ∧ w' = w := by
  by_cases h : a ≤ n
  · go_enter Try.func58, Try.ntmps58
    go_wp2
    go_ret
    exact ⟨by simp [h], rfl⟩
  · go_enter Try.func58, Try.ntmps58
    go_wp2
    go_ret
    exact ⟨by simp; omega, rfl⟩
theorem l01From_any (n : Int) (w : World) (h0 : 0 ≤ n) (h1 : n ≤ 4294967295) :
    Calls Try.prog 167 #[.int .i64 n] w fun e w' => e = .returned (.float .f32 n.toNat) ∧ w' = w := by
  go_enter Try.func167, Try.ntmps167
  go_wp2
  go_ret
  exact ⟨rfl, rfl⟩
/-- sameFloat says yes of the same numbers. -/
theorem sameFloat_yes (a b : Nat) (w : World) (h : canon .f64 a = canon .f64 b) :
    Calls Try.prog 13 #[.float .f64 a, .float .f64 b] w fun e w' => ∃ n, e = .returned (.bool true) ∧ w' = w.drewN n := by
  have hi := isn_of_canon h
  cases hn : isn .f64 a
  · rw [hn] at hi
    rw [canon_of_not hn, canon_of_not hi.symm] at h
    subst h
    have ho : FloatKind.f64.format.order a a = some .eq := by rw [order_self, hn]; rfl
    clear hi hn
    cases hz : FloatKind.f64.format.order a 0 == some .eq
    · go_enter Try.func13, Try.ntmps13
      go_wp2
      go_ret
      exact ⟨0, rfl, rfl⟩
    · go_enter Try.func13, Try.ntmps13
      go_wp2
      go_ret
      exact ⟨_, by simp [order_fopV_l], rfl⟩
  · rw [hn] at hi
    have ho : FloatKind.f64.format.order a a = none := by rw [order_self, hn]; rfl
    have ho' : FloatKind.f64.format.order b b = none := by rw [order_self, ← hi]; rfl
    clear hi hn
    go_enter Try.func13, Try.ntmps13
    go_wp2
    go_ret
    exact ⟨0, rfl, rfl⟩
@[go_sem] theorem ext_bits64 (b : Nat) (w : World) : (callFunc 183 #[.float .f64 b]).run Try.prog w = .ok (.value (.int .u64 b)) w := by
  rw [run_callFunc_extern Try.func183 (by kernel_rfl) (by kernel_rfl) (by kernel_rfl) (e := Extern.MathFloatBits.float64bits) (by kernel_rfl)]
  rfl
@[go_sem] theorem ext_from64 (n : Int) (w : World) : (callFunc 182 #[.int .u64 n]).run Try.prog w = .ok (.value (.float .f64 n.toNat)) w := by
  rw [run_callFunc_extern Try.func182 (by kernel_rfl) (by kernel_rfl) (by kernel_rfl) (e := Extern.MathFloatBits.float64frombits) (by kernel_rfl)]
  rfl
theorem m_Abs (b : Nat) (w : World) (hb : b < 18446744073709551616) :
    Calls Try.prog 171 #[.float .f64 b] w fun e w' => e = .returned (.float .f64 (fabs b)) ∧ w' = w := by
  go_enter Try.func171, Try.ntmps171
  go_wp2
  go_ret
  exact ⟨by rw [← bits_fabs b hb]; rfl, rfl⟩
theorem m_IsInf (b : Nat) (w : World) (hb : b < 18446744073709551616) :
    Calls Try.prog 175 #[.float .f64 b, .int .i64 0] w fun e w' => e = .returned (.bool (infinite b)) ∧ w' = w := by
  go_enter Try.func175, Try.ntmps175
  go_wp2_with fail
  refine (m_Abs b _ hb).mono ?_
  rintro e w' ⟨rfl, rfl⟩
  go_wp2
  go_ret
  exact ⟨by rw [← infinite_iff]; rfl, rfl⟩
theorem i_isFinite64 (b : Nat) (w : World) (hb : b < 18446744073709551616) :
    Calls Try.prog 155 #[.float .f64 b] w fun e w' => e = .returned (.bool (fin .f64 b)) ∧ w' = w := by
  have hf := fin_infinite b
  cases hn : isn .f64 b
  · rw [hn] at hf
    go_enter Try.func155, Try.ntmps155
    go_wp2_with fail
    refine (isNaN_any b _).mono ?_
    rintro e w' ⟨rfl, rfl⟩
    go_wp2_with fail
    refine (m_IsInf b _ hb).mono ?_
    rintro e w' ⟨rfl, rfl⟩
    go_wp2
    go_ret
    exact ⟨by simpa using hf, rfl⟩
  · rw [hn] at hf
    go_enter Try.func155, Try.ntmps155
    go_wp2_with fail
    refine (isNaN_any b _).mono ?_
    rintro e w' ⟨rfl, rfl⟩
    go_wp2
    go_ret
    exact ⟨by simpa using hf, rfl⟩
theorem i_IsFinite (b : Nat) (w : World) :
    Calls Try.prog 123 #[.float .f32 b] w fun e w' => ∃ n, e = .returned (.bool (fin .f32 b)) ∧ w' = w.drewN n := by
  have hb := wideV_lt b w
  have hf := fin_wideV b w
  go_enter Try.func123, Try.ntmps123
  go_wp2_with fail
  refine (i_isFinite64 _ _ hb).mono ?_
  rintro e w' ⟨rfl, rfl⟩
  go_wp2
  go_ret
  exact ⟨_, by rw [← hf]; rfl, rfl⟩
theorem s_l01Finite (b : Nat) (w : World) :
    Calls Try.prog 57 #[.float .f32 b] w fun e w' => ∃ n, e = .returned (.bool (fin .f32 b)) ∧ w' = w.drewN n := by
  go_enter Try.func57, Try.ntmps57
  go_wp2
  go_ret
  exact ⟨_, by rw [← sub_self_zero b w]; rfl, rfl⟩
end Go.Proofs.Ytpmjikchlofebaa
