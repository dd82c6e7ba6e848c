/- Contracts of the functions on bits of numbers. No statement is proved here. -/
import Derived.Test.YtknabmknboffgaaGreatDoorFloat
import Derived.Test.YtknabmknboffgaaGreatDoorChecked
import Derived.Outline
namespace Go.Proofs.YtknabmknboffgaaGreatDoor
open Go Go.RowKit
@[go_sem] theorem ext_bits32 (b : Nat) (w : World) : (callFunc 104 #[.float .f32 b]).run Tryz.prog w = .ok (.value (.int .u32 b)) w := by
  rw [run_callFunc_extern Tryz.func104 (by kernel_rfl) (by kernel_rfl) (by kernel_rfl) (e := Extern.MathFloatBits.float32bits) (by kernel_rfl)]
  rfl
@[go_sem] theorem ext_from32 (n : Int) (w : World) : (callFunc 103 #[.int .u32 n]).run Tryz.prog w = .ok (.value (.float .f32 n.toNat)) w := by
  rw [run_callFunc_extern Tryz.func103 (by kernel_rfl) (by kernel_rfl) (by kernel_rfl) (e := Extern.MathFloatBits.float32frombits) (by kernel_rfl)]
  rfl
@[go_sem] theorem conv_wide (b : Nat) (w : World) : (convert 22 56 (.float .f32 b)).run Tryz.prog w = .ok (.float .f64 (wideV b w)) (w.drewN (wideN b)) :=
  run_wide w _ _ b (by kernel_rfl) (by kernel_rfl)
@[go_sem] theorem conv_narrow (b : Nat) (w : World) : (convert 56 22 (.float .f64 b)).run Tryz.prog w = .ok (.float .f32 (narrowV b w)) (w.drewN (narrowN b)) :=
  run_narrow w _ _ b (by kernel_rfl) (by kernel_rfl)
theorem isNaN_any (b : Nat) (w : World) :
    Calls Tryz.prog 106 #[.float .f64 b] w fun e w' => e = .returned (.bool (isn .f64 b)) ∧ w' = w := by
  go_enter Tryz.func106, Tryz.ntmps106
  go_wp2
  go_ret
  refine ⟨?_, rfl⟩
  rw [order_self]; cases isn .f64 b <;> rfl
theorem bitsOf_any (b : Nat) (w : World) (hb : canon .f32 b < 4294967296) :
    Calls Tryz.prog 126 #[.float .f32 b] w fun e w' => ∃ n, e = .returned (.int .i64 (canon .f32 b)) ∧ w' = w.drewN n := by
  cases hn : isn .f32 b
  · have hc := canon_of_not hn
    rw [hc] at hb ⊢
    clear hc
    have hw := isn_wideV b w
    rw [hn] at hw
    go_enter Tryz.func126, Tryz.ntmps126
    go_wp2_with fail
    refine (isNaN_any _ _).mono ?_
    rintro e w' ⟨rfl, rfl⟩
    go_wp2
    go_ret
    exact ⟨_, rfl, rfl⟩
  · have hc := canon_of_nan hn
    rw [hc]
    clear hc
    have hw := isn_wideV b w
    rw [hn] at hw
    go_enter Tryz.func126, Tryz.ntmps126
    go_wp2_with fail
    refine (isNaN_any _ _).mono ?_
    rintro e w' ⟨rfl, rfl⟩
    go_wp2
    go_ret
    exact ⟨_, rfl, rfl⟩
theorem l01Bits_any (b : Nat) (w : World) (hb : canon .f32 b < 4294967296) :
    Calls Tryz.prog 82 #[.float .f32 b] w fun e w' => e = .returned (.int .i64 (canon .f32 b)) ∧ w' = w := by
  cases hn : isn .f32 b
  · have hc := canon_of_not hn
    rw [hc] at hb ⊢
    have ho : FloatKind.f32.format.order b b = some .eq := by rw [order_self, hn]; rfl
    clear hc hn
    go_enter Tryz.func82, Tryz.ntmps82
    go_wp2
    go_ret
    exact ⟨rfl, rfl⟩
  · have hc := canon_of_nan hn
    rw [hc]
    have ho : FloatKind.f32.format.order b b = none := by rw [order_self, hn]; rfl
    clear hc hn
    go_enter Tryz.func82, Tryz.ntmps82
    go_wp2
    go_ret
    exact ⟨rfl, rfl⟩
/-- the answer of FromBits -/
def fromBits (n : Int) : Nat := if 0 ≤ n ∧ n ≤ 4294967295 then n.toNat else 0
theorem l00In_any (n a b : Int) (w : World) :
    Calls Tryz.prog 83 #[.int .i64 n, .int .i64 a, .int .i64 b] w fun e w' => e = .returned (.bool (decide (a ≤ n ∧ n ≤ b))) ∧ w' = w := by
  by_cases h : a ≤ n
  · go_enter Tryz.func83, Tryz.ntmps83
    go_wp2
    go_ret
    exact ⟨by simp [h], rfl⟩
  · go_enter Tryz.func83, Tryz.ntmps83
    go_wp2
    go_ret
    exact ⟨by simp; omega, rfl⟩
theorem l01From_any (n : Int) (w : World) (h0 : 0 ≤ n) (h1 : n ≤ 4294967295) :
    Calls Tryz.prog 81 #[.int .i64 n] w fun e w' => e = .returned (.float .f32 n.toNat) ∧ w' = w := by
  go_enter Tryz.func81, Tryz.ntmps81
  go_wp2
  go_ret
  exact ⟨rfl, rfl⟩
/-- sameFloat says yes of the same numbers. -/
theorem sameFloat_yes (a b : Nat) (w : World) (h : canon .f64 a = canon .f64 b) :
    Calls Tryz.prog 30 #[.float .f64 a, .float .f64 b] w fun e w' => ∃ n, e = .returned (.bool true) ∧ w' = w.drewN n := by
  have hi := isn_of_canon h
  cases hn : isn .f64 a
  · rw [hn] at hi
    rw [canon_of_not hn, canon_of_not hi.symm] at h
    subst h
    have ho : FloatKind.f64.format.order a a = some .eq := by rw [order_self, hn]; rfl
    clear hi hn
    cases hz : FloatKind.f64.format.order a 0 == some .eq
    · go_enter Tryz.func30, Tryz.ntmps30
      go_wp2
      go_ret
      exact ⟨0, rfl, rfl⟩
    · go_enter Tryz.func30, Tryz.ntmps30
      go_wp2
      go_ret
      exact ⟨_, by simp [order_fopV_l], rfl⟩
  · rw [hn] at hi
    have ho : FloatKind.f64.format.order a a = none := by rw [order_self, hn]; rfl
    have ho' : FloatKind.f64.format.order b b = none := by rw [order_self, ← hi]; rfl
    clear hi hn
    go_enter Tryz.func30, Tryz.ntmps30
    go_wp2
    go_ret
    exact ⟨0, rfl, rfl⟩
@[go_sem] theorem ext_bits64 (b : Nat) (w : World) : (callFunc 129 #[.float .f64 b]).run Tryz.prog w = .ok (.value (.int .u64 b)) w := by
  rw [run_callFunc_extern Tryz.func129 (by kernel_rfl) (by kernel_rfl) (by kernel_rfl) (e := Extern.MathFloatBits.float64bits) (by kernel_rfl)]
  rfl
@[go_sem] theorem ext_from64 (n : Int) (w : World) : (callFunc 128 #[.int .u64 n]).run Tryz.prog w = .ok (.value (.float .f64 n.toNat)) w := by
  rw [run_callFunc_extern Tryz.func128 (by kernel_rfl) (by kernel_rfl) (by kernel_rfl) (e := Extern.MathFloatBits.float64frombits) (by kernel_rfl)]
  rfl
theorem m_Abs (b : Nat) (w : World) (hb : b < 18446744073709551616) :
    Calls Tryz.prog 116 #[.float .f64 b] w fun e w' => e = .returned (.float .f64 (fabs b)) ∧ w' = w := by
  go_enter Tryz.func116, Tryz.ntmps116
  go_wp2
  go_ret
  exact ⟨by rw [← bits_fabs b hb]; rfl, rfl⟩
theorem m_IsInf (b : Nat) (w : World) (hb : b < 18446744073709551616) :
    Calls Tryz.prog 107 #[.float .f64 b, .int .i64 0] w fun e w' => e = .returned (.bool (infinite b)) ∧ w' = w := by
  go_enter Tryz.func107, Tryz.ntmps107
  go_wp2_with fail
  refine (m_Abs b _ hb).mono ?_
  rintro e w' ⟨rfl, rfl⟩
  go_wp2
  go_ret
  exact ⟨by rw [← infinite_iff]; rfl, rfl⟩
theorem i_isFinite64 (b : Nat) (w : World) (hb : b < 18446744073709551616) :
    Calls Tryz.prog 90 #[.float .f64 b] w fun e w' => e = .returned (.bool (fin .f64 b)) ∧ w' = w := by
  have hf := fin_infinite b
  cases hn : isn .f64 b
  · rw [hn] at hf
    go_enter Tryz.func90, Tryz.ntmps90
    go_wp2_with fail
    refine (isNaN_any b _).mono ?_
    rintro e w' ⟨rfl, rfl⟩
    go_wp2_with fail
    refine (m_IsInf b _ hb).mono ?_
    rintro e w' ⟨rfl, rfl⟩
    go_wp2
    go_ret
    exact ⟨by simpa using hf, rfl⟩
  · rw [hn] at hf
    go_enter Tryz.func90, Tryz.ntmps90
    go_wp2_with fail
    refine (isNaN_any b _).mono ?_
    rintro e w' ⟨rfl, rfl⟩
    go_wp2
    go_ret
    exact ⟨by simpa using hf, rfl⟩
theorem i_IsFinite (b : Nat) (w : World) :
    Calls Tryz.prog 59 #[.float .f32 b] w fun e w' => ∃ n, e = .returned (.bool (fin .f32 b)) ∧ w' = w.drewN n := by
  have hb := wideV_lt b w
  have hf := fin_wideV b w
  go_enter Tryz.func59, Tryz.ntmps59
  go_wp2_with fail
  refine (i_isFinite64 _ _ hb).mono ?_
  rintro e w' ⟨rfl, rfl⟩
  go_wp2
  go_ret
  exact ⟨_, by rw [← hf]; rfl, rfl⟩
theorem s_l01Finite (b : Nat) (w : World) :
    Calls Tryz.prog 87 #[.float .f32 b] w fun e w' => ∃ n, e = .returned (.bool (fin .f32 b)) ∧ w' = w.drewN n := by
  go_enter Tryz.func87, Tryz.ntmps87
  go_wp2
  go_ret
  exact ⟨_, by rw [← sub_self_zero b w]; rfl, rfl⟩
end Go.Proofs.YtknabmknboffgaaGreatDoor
