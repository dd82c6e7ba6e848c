/- Contracts of the functions on bits of numbers. No statement is proved here. -/
import Derived.Test.YtbgcelodgefanabFloat
import Derived.Test.YtbgcelodgefanabChecked
import Derived.Outline
namespace Go.Proofs.Ytbgcelodgefanab
open Go Go.RowKit
@[go_sem] theorem ext_bits32 (b : Nat) (w : World) : (callFunc 12 #[.float .f32 b]).run Try.prog w = .ok (.value (.int .u32 b)) w := by
  rw [run_callFunc_extern Try.func12 (by kernel_rfl) (by kernel_rfl) (by kernel_rfl) (e := Extern.MathFloatBits.float32bits) (by kernel_rfl)]
  rfl
@[go_sem] theorem ext_from32 (n : Int) (w : World) : (callFunc 15 #[.int .u32 n]).run Try.prog w = .ok (.value (.float .f32 n.toNat)) w := by
  rw [run_callFunc_extern Try.func15 (by kernel_rfl) (by kernel_rfl) (by kernel_rfl) (e := Extern.MathFloatBits.float32frombits) (by kernel_rfl)]
  rfl
@[go_sem] theorem conv_wide (b : Nat) (w : World) : (convert 22 28 (.float .f32 b)).run Try.prog w = .ok (.float .f64 (wideV b w)) (w.drewN (wideN b)) :=
  run_wide w _ _ b (by kernel_rfl) (by kernel_rfl)
theorem isNaN_any (b : Nat) (w : World) :
    Calls Try.prog 11 #[.float .f64 b] w fun e w' => e = .returned (.bool (isn .f64 b)) ∧ w' = w := by
  go_enter Try.func11, Try.ntmps11
  go_wp2
  go_ret
  refine ⟨?_, rfl⟩
  rw [order_self]; cases isn .f64 b <;> rfl
theorem bitsOf_any (b : Nat) (w : World) (hb : canon .f32 b < 4294967296) :
    Calls Try.prog 6 #[.float .f32 b] w fun e w' => ∃ n, e = .returned (.int .i64 (canon .f32 b)) ∧ w' = w.drewN n := by
  cases hn : isn .f32 b
  · have hc := canon_of_not hn
    rw [hc] at hb ⊢
    clear hc
    have hw := isn_wideV b w
    rw [hn] at hw
    go_enter Try.func6, Try.ntmps6
    go_wp2_with fail
    refine (isNaN_any _ _).mono ?_
    rintro e w' ⟨rfl, rfl⟩
    go_wp2
    go_ret
    exact ⟨_, rfl, rfl⟩
  · have hc := canon_of_nan hn
    rw [hc]
    clear hc
    have hw := isn_wideV b w
    rw [hn] at hw
    go_enter Try.func6, Try.ntmps6
    go_wp2_with fail
    refine (isNaN_any _ _).mono ?_
    rintro e w' ⟨rfl, rfl⟩
    go_wp2
    go_ret
    exact ⟨_, rfl, rfl⟩
theorem l01Bits_any (b : Nat) (w : World) (hb : canon .f32 b < 4294967296) :
    Calls Try.prog 10 #[.float .f32 b] w fun e w' => e = .returned (.int .i64 (canon .f32 b)) ∧ w' = w := by
  cases hn : isn .f32 b
  · have hc := canon_of_not hn
    rw [hc] at hb ⊢
    have ho : FloatKind.f32.format.order b b = some .eq := by rw [order_self, hn]; rfl
    clear hc hn
    go_enter Try.func10, Try.ntmps10
    go_wp2
    go_ret
    exact ⟨rfl, rfl⟩
  · have hc := canon_of_nan hn
    rw [hc]
    have ho : FloatKind.f32.format.order b b = none := by rw [order_self, hn]; rfl
    clear hc hn
    go_enter Try.func10, Try.ntmps10
    go_wp2
    go_ret
    exact ⟨rfl, rfl⟩
theorem sBitsOf_any (b : Nat) (w : World) (hb : canon .f32 b < 4294967296) :
    Calls Try.prog 5 #[.float .f32 b] w fun e w' => e = .returned (.int .i64 (canon .f32 b)) ∧ w' = w := by
  go_enter Try.func5, Try.ntmps5
  go_wp2_with fail
  refine (l01Bits_any _ _ hb).mono ?_
  rintro e w' ⟨rfl, rfl⟩
  go_wp2
  go_ret
  exact ⟨rfl, rfl⟩
theorem law_FnExactBitsOf (b : Nat) (w : World) (hb0 : b < words .f32) :
    Calls Try.prog 3 #[.float .f32 b] w fun e w' => e = .returned (.bool true) ∧ Grown w w' := by
  have hb : canon .f32 b < 4294967296 := canon_lt hb0
  go_enter Try.func3, Try.ntmps3
  go_wp2_with fail
  refine (sBitsOf_any _ _ hb).mono ?_
  rintro e w' ⟨rfl, rfl⟩
  go_wp2_with fail
  refine (bitsOf_any _ _ hb).mono ?_
  rintro e w' ⟨n, rfl, rfl⟩
  go_wp2
  go_ret
  exact ⟨rfl, grown_drewN _ _⟩
/-- the answer of FromBits -/
def fromBits (n : Int) : Nat := if 0 ≤ n ∧ n ≤ 4294967295 then n.toNat else 0
theorem fromBits_yes (n : Int) (w : World) (h0 : 0 ≤ n) (h1 : n ≤ 4294967295) :
    Calls Try.prog 8 #[.int .i64 n] w fun e w' => e = .returned (.tuple #[.float .f32 n.toNat, .bool true]) ∧ w' = w := by
  go_enter Try.func8, Try.ntmps8
  go_wp2
  go_ret2
  exact ⟨rfl, rfl⟩
theorem fromBits_no (n : Int) (w : World) (h : n < 0 ∨ 4294967295 < n) :
    Calls Try.prog 8 #[.int .i64 n] w fun e w' => e = .returned (.tuple #[.float .f32 0, .bool false]) ∧ w' = w := by
  rcases h with h | h
  · go_enter Try.func8, Try.ntmps8
    go_wp2
    go_ret2
    exact ⟨rfl, rfl⟩
  · have h' : ¬ n < 0 := by omega
    go_enter Try.func8, Try.ntmps8
    go_wp2
    go_ret2
    exact ⟨rfl, rfl⟩
theorem l00In_any (n a b : Int) (w : World) :
    Calls Try.prog 13 #[.int .i64 n, .int .i64 a, .int .i64 b] w fun e w' => e = .returned (.bool (decide (a ≤ n ∧ n ≤ b))) ∧ w' = w := by
  by_cases h : a ≤ n
  · go_enter Try.func13, Try.ntmps13
    go_wp2
    go_ret
    exact ⟨by simp [h], rfl⟩
  · go_enter Try.func13, Try.ntmps13
    go_wp2
    go_ret
    exact ⟨by simp; omega, rfl⟩
theorem l01From_any (n : Int) (w : World) (h0 : 0 ≤ n) (h1 : n ≤ 4294967295) :
    Calls Try.prog 14 #[.int .i64 n] w fun e w' => e = .returned (.float .f32 n.toNat) ∧ w' = w := by
  go_enter Try.func14, Try.ntmps14
  go_wp2
  go_ret
  exact ⟨rfl, rfl⟩
theorem sFromBits_yes (n : Int) (w : World) (h0 : 0 ≤ n) (h1 : n ≤ 4294967295) :
    Calls Try.prog 7 #[.int .i64 n] w fun e w' => e = .returned (.tuple #[.float .f32 n.toNat, .bool true]) ∧ w' = w := by
  have hd : decide (0 ≤ n ∧ n ≤ 4294967295) = true := by simp [h0, h1]
  go_enter Try.func7, Try.ntmps7
  go_wp2_with fail
  refine (l00In_any _ _ _ _).mono ?_
  rintro e w' ⟨rfl, rfl⟩
  rw [hd]
  go_wp2_with fail
  refine (l01From_any _ _ h0 h1).mono ?_
  rintro e w' ⟨rfl, rfl⟩
  go_wp2
  go_ret2
  exact ⟨rfl, rfl⟩
theorem sFromBits_no (n : Int) (w : World) (h : n < 0 ∨ 4294967295 < n) :
    Calls Try.prog 7 #[.int .i64 n] w fun e w' => e = .returned (.tuple #[.float .f32 0, .bool false]) ∧ w' = w := by
  have hd : decide (0 ≤ n ∧ n ≤ 4294967295) = false := by simp; omega
  go_enter Try.func7, Try.ntmps7
  go_wp2_with fail
  refine (l00In_any _ _ _ _).mono ?_
  rintro e w' ⟨rfl, rfl⟩
  rw [hd]
  go_wp2
  go_ret2
  exact ⟨rfl, rfl⟩
/-- sameFloat says yes of the same numbers. -/
theorem sameFloat_yes (a b : Nat) (w : World) (h : canon .f64 a = canon .f64 b) :
    Calls Try.prog 9 #[.float .f64 a, .float .f64 b] w fun e w' => ∃ n, e = .returned (.bool true) ∧ w' = w.drewN n := by
  have hi := isn_of_canon h
  cases hn : isn .f64 a
  · rw [hn] at hi
    rw [canon_of_not hn, canon_of_not hi.symm] at h
    subst h
    have ho : FloatKind.f64.format.order a a = some .eq := by rw [order_self, hn]; rfl
    clear hi hn
    cases hz : FloatKind.f64.format.order a 0 == some .eq
    · go_enter Try.func9, Try.ntmps9
      go_wp2
      go_ret
      exact ⟨0, rfl, rfl⟩
    · go_enter Try.func9, Try.ntmps9
      go_wp2
      go_ret
      exact ⟨_, by simp [order_fopV_l], rfl⟩
  · rw [hn] at hi
    have ho : FloatKind.f64.format.order a a = none := by rw [order_self, hn]; rfl
    have ho' : FloatKind.f64.format.order b b = none := by rw [order_self, ← hi]; rfl
    clear hi hn
    go_enter Try.func9, Try.ntmps9
    go_wp2
    go_ret
    exact ⟨0, rfl, rfl⟩
theorem law_FnExactFromBits (n : Int) (w : World) (_h : (Lit.int .i64 n).wf = true) :
    Calls Try.prog 4 #[.int .i64 n] w fun e w' => e = .returned (.bool true) ∧ Grown w w' := by
  by_cases h : 0 ≤ n ∧ n ≤ 4294967295
  · obtain ⟨h0, h1⟩ := h
    go_enter Try.func4, Try.ntmps4
    go_wp2_with fail
    refine (sFromBits_yes _ _ h0 h1).mono ?_
    rintro e w' ⟨rfl, rfl⟩
    go_wp2_with fail
    refine (fromBits_yes _ _ h0 h1).mono ?_
    rintro e w' ⟨rfl, rfl⟩
    go_wp2_with fail
    refine (sameFloat_yes _ _ _ (by rw [canon_wideV, canon_wideV])).mono ?_
    rintro e w' ⟨m, rfl, rfl⟩
    go_wp2
    go_ret
    exact ⟨rfl, grown_drewN _ _⟩
  · have h' : n < 0 ∨ 4294967295 < n := by omega
    clear h
    go_enter Try.func4, Try.ntmps4
    go_wp2_with fail
    refine (sFromBits_no _ _ h').mono ?_
    rintro e w' ⟨rfl, rfl⟩
    go_wp2_with fail
    refine (fromBits_no _ _ h').mono ?_
    rintro e w' ⟨rfl, rfl⟩
    go_wp2_with fail
    refine (sameFloat_yes _ _ _ (by rw [canon_wideV, canon_wideV])).mono ?_
    rintro e w' ⟨m, rfl, rfl⟩
    go_wp2
    go_ret
    exact ⟨rfl, grown_drewN _ _⟩
end Go.Proofs.Ytbgcelodgefanab
