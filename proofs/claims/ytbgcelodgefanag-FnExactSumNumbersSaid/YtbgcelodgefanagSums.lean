/- Contracts of the sums. No statement is proved here. -/
import Derived.Test.YtbgcelodgefanagSlice
namespace Go.Proofs.Ytbgcelodgefanag
open Go Go.RowKit

theorem canon_zero : canon .f32 0 = 0 := by decide +kernel
def sumK (xs : List Nat) : Nat → Nat
  | 0 => 0
  | k + 1 => fop .add .f32 (sumK xs k) (canon .f32 (xs.getD k 0))
def dotK (xs ys : List Nat) : Nat → Nat
  | 0 => 0
  | k + 1 => fop .add .f32 (dotK xs ys k) (fop .mul .f32 (canon .f32 (xs.getD k 0)) (canon .f32 (ys.getD k 0)))
theorem s_l01Few_yes (A : Option Addr) (n cap : Nat) (w : World) (h : n ≤ 256) :
    Calls Try.prog 26 #[.slice A n cap] w fun e w' => e = .returned (.bool true) ∧ w' = w := by
  go_enter Try.func26, Try.ntmps26
  go_wp2
  go_ret
  exact ⟨by simp; omega, rfl⟩
theorem s_l01Few_no (A : Option Addr) (n cap : Nat) (w : World) (h : 256 < n) :
    Calls Try.prog 26 #[.slice A n cap] w fun e w' => e = .returned (.bool false) ∧ w' = w := by
  go_enter Try.func26, Try.ntmps26
  go_wp2
  go_ret
  exact ⟨by simp; omega, rfl⟩
theorem s_l01Sum (A : Option Addr) (cap : Nat) (xs : List Nat) (w : World) (h : Fl w A xs) (hn : xs.length ≤ 1048576) :
    Calls Try.prog 27 #[.slice A xs.length cap] w fun e w' => ∃ r n, e = .returned (.float .f32 r) ∧ canon .f32 r = sumK xs xs.length ∧ w' = w.drewN n := by
  go_enter Try.func27, Try.ntmps27
  go_wp2
  go_loopw [3, 4] (fun s i wr => ∃ k n r : Nat, k ≤ xs.length ∧ i = .int .i64 k ∧ s = .float .f32 r ∧ Hid (canon .f32 r = sumK xs k) ∧ wr = w.drewN n) (fun _ i _ => xs.length - (intOf i).toNat)
  case atStart => exact ⟨0, 0, 0, Nat.zero_le _, rfl, rfl, canon_zero, rfl⟩
  case round =>
    obtain ⟨k, n, r, hk, rfl, rfl, hr, rfl⟩ := hrel
    by_cases hlt : k < xs.length
    · obtain ⟨b, off, rfl, hb, hc⟩ := h.at_ hlt
      have HF := Lib.hid h; clear h
      have HS : Hid (sumK xs (k + 1) = fop .add .f32 (sumK xs k) (canon .f32 (xs.getD k 0))) := rfl
      generalize xs.getD k 0 = x at hc HS
      go_wp2
      go_roundw
      case rel => exact ⟨k + 1, _, _, by omega, by go_num, rfl, Lib.hid (by rw [canon_fopV, hr.out, HS.out]), rfl⟩
      case measure => simp [intOf]; omega
    · have hkk : k = xs.length := by omega
      subst hkk
      go_wp2
      go_ret
      exact ⟨_, _, rfl, hr.out, rfl⟩
theorem i_sumOf (A : Option Addr) (cap : Nat) (xs : List Nat) (w : World) (h : Fl w A xs) (hn : xs.length ≤ 256) :
    Calls Try.prog 28 #[.slice A xs.length cap] w fun e w' => ∃ r n, e = .returned (.tuple #[.float .f32 r, .bool true]) ∧ canon .f32 r = sumK xs xs.length ∧ w' = w.drewN n := by
  go_enter Try.func28, Try.ntmps28
  go_wp2
  go_loopw [4, 12] (fun s i wr => ∃ k n r : Nat, k ≤ xs.length ∧ i = .int .i64 k ∧ s = .float .f32 r ∧ Hid (canon .f32 r = sumK xs k) ∧ wr = w.drewN n) (fun _ i _ => xs.length - (intOf i).toNat)
  case atStart => exact ⟨0, 0, 0, Nat.zero_le _, rfl, rfl, canon_zero, rfl⟩
  case round =>
    obtain ⟨k, n, r, hk, rfl, rfl, hr, rfl⟩ := hrel
    by_cases hlt : k < xs.length
    · obtain ⟨b, off, rfl, hb, hc⟩ := h.at_ hlt
      have HF := Lib.hid h; clear h
      have HS : Hid (sumK xs (k + 1) = fop .add .f32 (sumK xs k) (canon .f32 (xs.getD k 0))) := rfl
      generalize xs.getD k 0 = x at hc HS
      go_wp2
      go_roundw
      case rel => exact ⟨k + 1, _, _, by omega, by go_num, rfl, Lib.hid (by rw [canon_fopV, hr.out, HS.out]), rfl⟩
      case measure => simp [intOf]; omega
    · have hkk : k = xs.length := by omega
      subst hkk
      go_wp2
      go_ret2
      exact ⟨_, _, rfl, hr.out, rfl⟩
theorem i_sumOf_no (A : Option Addr) (n cap : Nat) (w : World) (h : 256 < n) :
    Calls Try.prog 28 #[.slice A n cap] w fun e w' => e = .returned (.tuple #[.float .f32 0, .bool false]) ∧ w' = w := by
  go_enter Try.func28, Try.ntmps28
  go_wp2
  go_ret2
  exact ⟨rfl, rfl⟩
theorem i_SumNumbers (A : Option Addr) (cap : Nat) (xs : List Nat) (w : World) (h : Fl w A xs) (hn : xs.length ≤ 256) :
    Calls Try.prog 14 #[.slice A xs.length cap] w fun e w' => ∃ r n, e = .returned (.tuple #[.float .f32 r, .bool true]) ∧ canon .f32 r = sumK xs xs.length ∧ w' = w.drewN n := by
  have H := Lib.hid (i_sumOf A cap xs w h hn); clear h hn
  go_enter Try.func14, Try.ntmps14
  go_wp2_with fail
  refine H.out.mono ?_
  rintro e w' ⟨r, n, rfl, hr, rfl⟩
  have HR := Lib.hid hr; clear hr
  go_wp2
  go_ret2
  exact ⟨_, _, rfl, HR.out, rfl⟩
theorem i_SumNumbers_no (A : Option Addr) (n cap : Nat) (w : World) (h : 256 < n) :
    Calls Try.prog 14 #[.slice A n cap] w fun e w' => e = .returned (.tuple #[.float .f32 0, .bool false]) ∧ w' = w := by
  go_enter Try.func14, Try.ntmps14
  go_wp2_with fail
  refine (i_sumOf_no A n cap w h).mono ?_
  rintro e w' ⟨rfl, rfl⟩
  go_wp2
  go_ret2
  exact ⟨rfl, rfl⟩
theorem s_SumNumbers (A : Option Addr) (cap : Nat) (xs : List Nat) (w : World) (h : Fl w A xs) (hn : xs.length ≤ 256) :
    Calls Try.prog 12 #[.slice A xs.length cap] w fun e w' => ∃ r n, e = .returned (.tuple #[.float .f32 r, .bool true]) ∧ canon .f32 r = sumK xs xs.length ∧ w' = w.drewN n := by
  have H := Lib.hid (s_l01Sum A cap xs w h (by omega)); clear h
  go_enter Try.func12, Try.ntmps12
  go_wp2_with fail
  refine (s_l01Few_yes A _ cap _ hn).mono ?_
  rintro e w' ⟨rfl, rfl⟩
  go_wp2_with fail
  refine H.out.mono ?_
  rintro e w' ⟨r, n, rfl, hr, rfl⟩
  have HR := Lib.hid hr; clear hr
  go_wp2
  go_ret2
  exact ⟨_, _, rfl, HR.out, rfl⟩
theorem s_SumNumbers_no (A : Option Addr) (n cap : Nat) (w : World) (h : 256 < n) :
    Calls Try.prog 12 #[.slice A n cap] w fun e w' => e = .returned (.tuple #[.float .f32 0, .bool false]) ∧ w' = w := by
  go_enter Try.func12, Try.ntmps12
  go_wp2_with fail
  refine (s_l01Few_no A n cap w h).mono ?_
  rintro e w' ⟨rfl, rfl⟩
  go_wp2
  go_ret2
  exact ⟨rfl, rfl⟩
theorem law_FnExactSumNumbers (A : Option Addr) (cap : Nat) (xs : List Nat) (w : World) (h : Fl w A xs) (hm : xs.length ≤ 9223372036854775807) :
    Calls Try.prog 5 #[.slice A xs.length cap] w fun e w' => e = .returned (.bool true) ∧ Below w.heap.size w w' := by
  by_cases hn : xs.length ≤ 1048576
  · clear hm
    go_enter Try.func5, Try.ntmps5
    go_wp2_with fail
    refine (l_toF32 A cap xs _ h hn).mono ?_
    rintro e w1 ⟨A1, cap1, rfl, h1, b1⟩
    have B1 := Lib.hid b1; clear b1
    by_cases hf : xs.length ≤ 256
    · go_wp2_with fail
      refine (s_SumNumbers A1 cap1 xs _ h1 hf).mono ?_
      rintro e w2 ⟨r, n, rfl, hr, rfl⟩
      have HR := Lib.hid hr; clear hr
      go_wp2_with fail
      refine (l_toF32 A cap xs _ (h.below (below_draws B1.out n)) hn).mono ?_
      rintro e w2 ⟨A2, cap2, rfl, h2, b2⟩
      have B2 : Hid (Below w.heap.size w w2) := Lib.hid ((below_draws B1.out n).trans (b2.mono (by exact B1.out.size)))
      clear b2
      go_wp2_with fail
      refine (i_SumNumbers A2 cap2 xs _ h2 hf).mono ?_
      rintro e w3 ⟨r', n', rfl, hr, rfl⟩
      have HR' := Lib.hid hr; clear hr
      go_wp2_with fail
      refine (sameFloat_yes _ _ _ (by rw [canon_wideV, canon_wideV, HR.out, HR'.out])).mono ?_
      rintro e w' ⟨m, rfl, rfl⟩
      go_wp2_with fail
      refine (l_toF32 A cap xs _ (h.below (below_draws B2.out _)) hn).mono ?_
      rintro e w4 ⟨A4, cap4, rfl, h4, b4⟩
      have h2' : Fl w4 A2 xs := Fl.below (w := w2.drewN _) h2 b4
      have B4 : Hid (Below w.heap.size w w4) := Lib.hid ((below_draws B2.out _).trans (b4.mono (by exact B2.out.size)))
      clear b4
      go_wp2_with fail
      refine (l_eqF32 A2 A4 cap2 cap4 xs _ h2' h4 hn).mono ?_
      rintro e w' ⟨m2, rfl, rfl⟩
      go_wp2
      go_ret
      exact ⟨rfl, below_draws B4.out _⟩
    · go_wp2_with fail
      refine (s_SumNumbers_no A1 _ cap1 _ (by omega)).mono ?_
      rintro e w2 ⟨rfl, rfl⟩
      go_wp2_with fail
      refine (l_toF32 A cap xs _ (h.below B1.out) hn).mono ?_
      rintro e w2 ⟨A2, cap2, rfl, h2, b2⟩
      have B2 : Hid (Below w.heap.size w w2) := Lib.hid (B1.out.trans (b2.mono (by exact B1.out.size)))
      clear b2
      go_wp2_with fail
      refine (i_SumNumbers_no A2 _ cap2 _ (by omega)).mono ?_
      rintro e w3 ⟨rfl, rfl⟩
      go_wp2_with fail
      refine (sameFloat_yes _ _ _ (by rw [canon_wideV, canon_wideV])).mono ?_
      rintro e w' ⟨m, rfl, rfl⟩
      go_wp2_with fail
      refine (l_toF32 A cap xs _ (h.below (below_draws B2.out _)) hn).mono ?_
      rintro e w4 ⟨A4, cap4, rfl, h4, b4⟩
      have h2' : Fl w4 A2 xs := Fl.below (w := Go.World.drewN _ _) h2 b4
      have B4 : Hid (Below w.heap.size w w4) := Lib.hid ((below_draws B2.out _).trans (b4.mono (by exact B2.out.size)))
      clear b4
      go_wp2_with fail
      refine (l_eqF32 A2 A4 cap2 cap4 xs _ h2' h4 hn).mono ?_
      rintro e w' ⟨m2, rfl, rfl⟩
      go_wp2
      go_ret
      exact ⟨rfl, below_draws B4.out _⟩
  · go_enter Try.func5, Try.ntmps5
    go_wp2
    go_ret
    exact ⟨rfl, Below.refl _ _⟩
end Go.Proofs.Ytbgcelodgefanag
