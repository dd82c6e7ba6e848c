/- Contracts of the sums. No statement is proved here. -/
import Derived.Test.YtbgcelodgefanagSlice
namespace Go.Proofs.Ytbgcelodgefanag
open Go Go.RowKit

theorem canon_zero : canon .f32 0 = 0 := by decide +kernel
def sumK (xs : List Nat) : Nat → Nat
  | 0 => 0
  | k + 1 => fop .add .f32 (sumK xs k) (canon .f32 (xs.getD k 0))
def dotK (xs ys : List Nat) : Nat → Nat
  | 0 => 0
  | k + 1 => fop .add .f32 (dotK xs ys k) (fop .mul .f32 (canon .f32 (xs.getD k 0)) (canon .f32 (ys.getD k 0)))
theorem s_l01Few_yes (A : Option Addr) (n cap : Nat) (w : World) (h : n ≤ 256) :
    Calls Try.prog 26 #[.slice A n cap] w fun e w' => e = .returned (.bool true) ∧ w' = w := by
  go_enter Try.func26, Try.ntmps26
  go_wp2
  go_ret
  exact ⟨by simp; omega, rfl⟩
theorem s_l01Few_no (A : Option Addr) (n cap : Nat) (w : World) (h : 256 < n) :
    Calls Try.prog 26 #[.slice A n cap] w fun e w' => e = .returned (.bool false) ∧ w' = w := by
  go_enter Try.func26, Try.ntmps26
  go_wp2
  go_ret
  exact ⟨by simp; omega, rfl⟩
theorem s_l01Sum (A : Option Addr) (cap : Nat) (xs : List Nat) (w : World) (h : Fl w A xs) (hn : xs.length ≤ 1048576) :
    Calls Try.prog 27 #[.slice A xs.length cap] w fun e w' => ∃ r n, e = .returned (.float .f32 r) ∧ canon .f32 r = sumK xs xs.length ∧ w' = w.drewN n := by
  go_enter Try.func27, Try.ntmps27
  go_wp2
  go_loopw [3, 4] (fun s i wr => ∃ k n r : Nat, k ≤ xs.length ∧ i = .int .i64 k ∧ s = .float .f32 r ∧ Hid (canon .f32 r = sumK xs k) ∧ wr = w.drewN n) (fun _ i _ => xs.length - (intOf i).toNat)
  case atStart => exact ⟨0, 0, 0, Nat.zero_le _, rfl, rfl, canon_zero, rfl⟩
  case round =>
    obtain ⟨k, n, r, hk, rfl, rfl, hr, rfl⟩ := hrel
    by_cases hlt : k < xs.length
    · obtain ⟨b, off, rfl, hb, hc⟩ := h.at_ hlt
      have HF := Lib.hid h; clear h
      have HS : Hid (sumK xs (k + 1) = fop .add .f32 (sumK xs k) (canon .f32 (xs.getD k 0))) := rfl
      generalize xs.getD k 0 = x at hc HS
      go_wp2
      go_roundw
      case rel => exact ⟨k + 1, _, _, by omega, by go_num, rfl, Lib.hid (by rw [canon_fopV, hr.out, HS.out]), rfl⟩
      case measure => simp [intOf]; omega
    · have hkk : k = xs.length := by omega
      subst hkk
      go_wp2
      go_ret
      exact ⟨_, _, rfl, hr.out, rfl⟩
theorem i_sumOf (A : Option Addr) (cap : Nat) (xs : List Nat) (w : World) (h : Fl w A xs) (hn : xs.length ≤ 256) :
    Calls Try.prog 28 #[.slice A xs.length cap] w fun e w' => ∃ r n, e = .returned (.tuple #[.float .f32 r, .bool true]) ∧ canon .f32 r = sumK xs xs.length ∧ w' = w.drewN n := by
  go_enter Try.func28, Try.ntmps28
  go_wp2
  go_loopw [4, 12] (fun s i wr => ∃ k n r : Nat, k ≤ xs.length ∧ i = .int .i64 k ∧ s = .float .f32 r ∧ Hid (canon .f32 r = sumK xs k) ∧ wr = w.drewN n) (fun _ i _ => xs.length - (intOf i).toNat)
  case atStart => exact ⟨0, 0, 0, Nat.zero_le _, rfl, rfl, canon_zero, rfl⟩
  case round =>
    obtain ⟨k, n, r, hk, rfl, rfl, hr, rfl⟩ := hrel
    by_cases hlt : k < xs.length
    · obtain ⟨b, off, rfl, hb, hc⟩ := h.at_ hlt
      have HF := Lib.hid h; clear h
      have HS : Hid (sumK xs (k + 1) = fop .add .f32 (sumK xs k) (canon .f32 (xs.getD k 0))) := rfl
      generalize xs.getD k 0 = x at hc HS
      go_wp2
      go_roundw
      case rel => exact ⟨k + 1, _, _, by omega, by go_num, rfl, Lib.hid (by rw [canon_fopV, hr.out, HS.out]), rfl⟩
      case measure => simp [intOf]; omega
    · have hkk : k = xs.length := by omega
      subst hkk
      go_wp2
      go_ret2
      exact ⟨_, _, rfl, hr.out, rfl⟩
theorem i_sumOf_no (A : Option Addr) (n cap : Nat) (w : World) (h : 256 < n) :
    Calls Try.prog 28 #[.slice A n cap] w fun e w' => e = .returned (.tuple #[.float .f32 0, .bool false]) ∧ w' = w := by
  go_enter Try.func28, Try.ntmps28
  go_wp2
  go_ret2
  exact ⟨rfl, rfl⟩
theorem i_SumNumbers (A : Option Addr) (cap : Nat) (xs : List Nat) (w : World) (h : Fl w A xs) (hn : xs.length ≤ 256) :
    Calls Try.prog 14 #[.slice A xs.length cap] w fun e w' => ∃ r n, e = .returned (.tuple #[.float .f32 r, .bool true]) ∧ canon .f32 r = sumK xs xs.length ∧ w' = w.drewN n := by
  have H := Lib.hid (i_sumOf A cap xs w h hn); clear h hn
  go_enter Try.func14, Try.ntmps14
  go_wp2_with fail
  refine H.out.mono ?_
  rintro e w' ⟨r, n, rfl, hr, rfl⟩
  have HR := Lib.hid hr; clear hr
  go_wp2
  go_ret2
  exact ⟨_, _, rfl, HR.out, rfl⟩
theorem i_SumNumbers_no (A : Option Addr) (n cap : Nat) (w : World) (h : 256 < n) :
    Calls Try.prog 14 #[.slice A n cap] w fun e w' => e = .returned (.tuple #[.float .f32 0, .bool false]) ∧ w' = w := by
  go_enter Try.func14, Try.ntmps14
  go_wp2_with fail
  refine (i_sumOf_no A n cap w h).mono ?_
  rintro e w' ⟨rfl, rfl⟩
  go_wp2
  go_ret2
  exact ⟨rfl, rfl⟩
theorem s_SumNumbers (A : Option Addr) (cap : Nat) (xs : List Nat) (w : World) (h : Fl w A xs) (hn : xs.length ≤ 256) :
    Calls Try.prog 12 #[.slice A xs.length cap] w fun e w' => ∃ r n, e = .returned (.tuple #[.float .f32 r, .bool true]) ∧ canon .f32 r = sumK xs xs.length ∧ w' = w.drewN n := by
  have H := Lib.hid (s_l01Sum A cap xs w h (by omega)); clear h
  go_enter Try.func12, Try.ntmps12
  go_wp2_with fail
  refine (s_l01Few_yes A _ cap _ hn).mono ?_
  rintro e w' ⟨rfl, rfl⟩
  go_wp2_with fail
  refine H.out.mono ?_
  rintro e w' ⟨r, n, rfl, hr, rfl⟩
  have HR := Lib.hid hr; clear hr
  go_wp2
  go_ret2
  exact ⟨_, _, rfl, HR.out, rfl⟩
theorem s_SumNumbers_no (A : Option Addr) (n cap : Nat) (w : World) (h : 256 < n) :
    Calls Try.prog 12 #[.slice A n cap] w fun e w' => e = .returned (.tuple #[.float .f32 0, .bool false]) ∧ w' = w := by
  go_enter Try.func12, Try.ntmps12
  go_wp2_with fail
  refine (s_l01Few_no A n cap w h).mono ?_
  rintro e w' ⟨rfl, rfl⟩
  go_wp2
  go_ret2
  exact ⟨rfl, rfl⟩
theorem law_FnExactSumNumbers (A : Option Addr) (cap : Nat) (xs : List Nat) (w : World) (h : Fl w A xs) (hm : xs.length ≤ 9223372036854775807) :
    Calls Try.prog 5 #[.slice A xs.length cap] w fun e w' => e = .returned (.bool true) ∧ Below w.heap.size w w' := by
  by_cases hn : xs.length ≤ 1048576
  · clear hm
    go_enter Try.func5, Try.ntmps5
    go_wp2_with fail
    refine (l_toF32 A cap xs _ h hn).mono ?_
    rintro e w1 ⟨A1, cap1, rfl, h1, b1⟩
    have B1 := Lib.hid b1; clear b1
    by_cases hf : xs.length ≤ 256
    · go_wp2_with fail
      refine (s_SumNumbers A1 cap1 xs _ h1 hf).mono ?_
      rintro e w2 ⟨r, n, rfl, hr, rfl⟩
      have HR := Lib.hid hr; clear hr
      go_wp2_with fail
      refine (l_toF32 A cap xs _ (h.below (below_draws B1.out n)) hn).mono ?_
      rintro e w2 ⟨A2, cap2, rfl, h2, b2⟩
      have B2 : Hid (Below w.heap.size w w2) := Lib.hid ((below_draws B1.out n).trans (b2.mono (by exact B1.out.size)))
      clear b2
      go_wp2_with fail
      refine (i_SumNumbers A2 cap2 xs _ h2 hf).mono ?_
      rintro e w3 ⟨r', n', rfl, hr, rfl⟩
      have HR' := Lib.hid hr; clear hr
      go_wp2_with fail
      refine (sameFloat_yes _ _ _ (by rw [canon_wideV, canon_wideV, HR.out, HR'.out])).mono ?_
      rintro e w' ⟨m, rfl, rfl⟩
      go_wp2_with fail
      refine (l_toF32 A cap xs _ (h.below (below_draws B2.out _)) hn).mono ?_
      rintro e w4 ⟨A4, cap4, rfl, h4, b4⟩
      have h2' : Fl w4 A2 xs := Fl.below (w := w2.drewN _) h2 b4
      have B4 : Hid (Below w.heap.size w w4) := Lib.hid ((below_draws B2.out _).trans (b4.mono (by exact B2.out.size)))
      clear b4
      go_wp2_with fail
      refine (l_eqF32 A2 A4 cap2 cap4 xs _ h2' h4 hn).mono ?_
      rintro e w' ⟨m2, rfl, rfl⟩
      go_wp2
      go_ret
      exact ⟨rfl, below_draws B4.out _⟩
    · go_wp2_with fail
      refine (s_SumNumbers_no A1 _ cap1 _ (by omega)).mono ?_
      rintro e w2 ⟨rfl, rfl⟩
      go_wp2_with fail
      refine (l_toF32 A cap xs _ (h.below B1.out) hn).mono ?_
      rintro e w2 ⟨A2, cap2, rfl, h2, b2⟩
      have B2 : Hid (Below w.heap.size w w2) := Lib.hid (B1.out.trans (b2.mono (by exact B1.out.size)))
      clear b2
      go_wp2_with fail
      refine (i_SumNumbers_no A2 _ cap2 _ (by omega)).mono ?_
      rintro e w3 ⟨rfl, rfl⟩
      go_wp2_with fail
      refine (sameFloat_yes _ _ _ (by rw [canon_wideV, canon_wideV])).mono ?_
      rintro e w' ⟨m, rfl, rfl⟩
      go_wp2_with fail
      refine (l_toF32 A cap xs _ (h.below (below_draws B2.out _)) hn).mono ?_
      rintro e w4 ⟨A4, cap4, rfl, h4, b4⟩
      have h2' : Fl w4 A2 xs := Fl.below (w := Go.World.drewN _ _) h2 b4
      have B4 : Hid (Below w.heap.size w w4) := Lib.hid ((below_draws B2.out _).trans (b4.mono (by exact B2.out.size)))
      clear b4
      go_wp2_with fail
      refine (l_eqF32 A2 A4 cap2 cap4 xs _ h2' h4 hn).mono ?_
      rintro e w' ⟨m2, rfl, rfl⟩
      go_wp2
      go_ret
      exact ⟨rfl, below_draws B4.out _⟩
  · go_enter Try.func5, Try.ntmps5
    go_wp2
    go_ret
    exact ⟨rfl, Below.refl _ _⟩
theorem i_mulNumbers (a b : Nat) (w : World) :
    Calls Try.prog 31 #[.float .f32 a, .float .f32 b] w fun e w' => e = .returned (.float .f32 (fopV .mul .f32 a b w)) ∧ w' = w.drewN (fopN .mul .f32 a b) := by
  go_enter Try.func31, Try.ntmps31
  go_wp2
  go_ret
  exact ⟨rfl, rfl⟩
set_option maxHeartbeats 4000000 in
theorem s_l01Dot (A B : Option Addr) (cap cap' : Nat) (xs ys : List Nat) (w : World) (h : Fl w A xs) (h' : Fl w B ys) (hl : xs.length = ys.length) (hn : xs.length ≤ 1048576) :
    Calls Try.prog 29 #[.slice A xs.length cap, .slice B ys.length cap'] w fun e w' => ∃ r n, e = .returned (.float .f32 r) ∧ canon .f32 r = dotK xs ys xs.length ∧ w' = w.drewN n := by
  rw [← hl]
  have HL := Lib.hid hl; clear hl
  go_enter Try.func29, Try.ntmps29
  go_wp2
  go_loopw [5, 6] (fun s i wr => ∃ k n r : Nat, k ≤ xs.length ∧ i = .int .i64 k ∧ s = .float .f32 r ∧ Hid (canon .f32 r = dotK xs ys k) ∧ wr = w.drewN n) (fun _ i _ => xs.length - (intOf i).toNat)
  case atStart => exact ⟨0, 0, 0, Nat.zero_le _, rfl, rfl, canon_zero, rfl⟩
  case round =>
    obtain ⟨k, n, r, hk, rfl, rfl, hr, rfl⟩ := hrel
    by_cases hlt : k < xs.length
    · obtain ⟨b, off, rfl, hb, hc⟩ := h.at_ hlt
      obtain ⟨b', off', rfl, hb', hc'⟩ := h'.at_ (by rw [← HL.out]; exact hlt)
      have HS : Hid (dotK xs ys (k + 1) = fop .add .f32 (dotK xs ys k) (fop .mul .f32 (canon .f32 (xs.getD k 0)) (canon .f32 (ys.getD k 0)))) := rfl
      generalize xs.getD k 0 = x at hc HS
      generalize ys.getD k 0 = y at hc' HS
      clear h h' hb hb'
      go_wp2
      go_region_with (fail)
      all_goals
        go_wp2
        go_roundw
        case rel => exact ⟨k + 1, _, _, by omega, by go_num, rfl, Lib.hid (by rw [canon_fopV, canon_fopV, hr.out, HS.out]), rfl⟩
        case measure => simp [intOf]; omega
    · have hkk : k = xs.length := by omega
      subst hkk
      go_wp2
      go_ret
      exact ⟨_, _, rfl, hr.out, rfl⟩
set_option maxHeartbeats 4000000 in
theorem i_dotOf (A B : Option Addr) (cap cap' : Nat) (xs ys : List Nat) (w : World) (h : Fl w A xs) (h' : Fl w B ys) (hl : xs.length = ys.length) (hn : xs.length ≤ 256) :
    Calls Try.prog 30 #[.slice A xs.length cap, .slice B ys.length cap', .func (.func 31) #[] #[]] w fun e w' => ∃ r n, e = .returned (.tuple #[.float .f32 r, .bool true]) ∧ canon .f32 r = dotK xs ys xs.length ∧ w' = w.drewN n := by
  rw [← hl]
  have HL := Lib.hid hl; clear hl
  go_enter Try.func30, Try.ntmps30
  go_wp2
  go_loopw [8, 23] (fun s i wr => ∃ k n r : Nat, k ≤ xs.length ∧ i = .int .i64 k ∧ s = .float .f32 r ∧ Hid (canon .f32 r = dotK xs ys k) ∧ wr = w.drewN n) (fun _ i _ => xs.length - (intOf i).toNat)
  case atStart => exact ⟨0, 0, 0, Nat.zero_le _, rfl, rfl, canon_zero, rfl⟩
  case round =>
    obtain ⟨k, n, r, hk, rfl, rfl, hr, rfl⟩ := hrel
    by_cases hlt : k < xs.length
    · obtain ⟨b, off, rfl, hb, hc⟩ := h.at_ hlt
      obtain ⟨b', off', rfl, hb', hc'⟩ := h'.at_ (by rw [← HL.out]; exact hlt)
      have HS : Hid (dotK xs ys (k + 1) = fop .add .f32 (dotK xs ys k) (fop .mul .f32 (canon .f32 (xs.getD k 0)) (canon .f32 (ys.getD k 0)))) := rfl
      generalize xs.getD k 0 = x at hc HS
      generalize ys.getD k 0 = y at hc' HS
      clear h h' hb hb'
      go_wp2
      go_roundw
      case rel => exact ⟨k + 1, _, _, by omega, by go_num, rfl, Lib.hid (by rw [canon_fopV, canon_fopV, hr.out, HS.out]), rfl⟩
      case measure => simp [intOf]; omega
    · have hkk : k = xs.length := by omega
      subst hkk
      go_wp2
      go_ret2
      exact ⟨_, _, rfl, hr.out, rfl⟩
theorem i_dotOf_no (A B : Option Addr) (n m cap cap' : Nat) (f : Value) (w : World) (h : 256 < n ∨ n ≠ m) :
    Calls Try.prog 30 #[.slice A n cap, .slice B m cap', f] w fun e w' => e = .returned (.tuple #[.float .f32 0, .bool false]) ∧ w' = w := by
  by_cases h1 : 256 < n
  · clear h
    go_enter Try.func30, Try.ntmps30
    go_wp2
    go_ret2
    exact ⟨rfl, rfl⟩
  · have h2 : ((n : Int) != (m : Int)) = true := by rw [bne_iff_ne]; omega
    have h3 : (n : Int) ≤ 256 := by omega
    clear h
    go_enter Try.func30, Try.ntmps30
    go_wp2
    go_ret2
    exact ⟨rfl, rfl⟩
theorem i_DotNumbers (A B : Option Addr) (cap cap' : Nat) (xs ys : List Nat) (w : World) (h : Fl w A xs) (h' : Fl w B ys) (hl : xs.length = ys.length) (hn : xs.length ≤ 256) :
    Calls Try.prog 17 #[.slice A xs.length cap, .slice B ys.length cap'] w fun e w' => ∃ r n, e = .returned (.tuple #[.float .f32 r, .bool true]) ∧ canon .f32 r = dotK xs ys xs.length ∧ w' = w.drewN n := by
  have H := Lib.hid (i_dotOf A B cap cap' xs ys w h h' hl hn); clear h h' hl hn
  go_enter Try.func17, Try.ntmps17
  go_wp2_with fail
  refine H.out.mono ?_
  rintro e w' ⟨r, n, rfl, hr, rfl⟩
  have HR := Lib.hid hr; clear hr
  go_wp2
  go_ret2
  exact ⟨_, _, rfl, HR.out, rfl⟩
theorem i_DotNumbers_no (A B : Option Addr) (n m cap cap' : Nat) (w : World) (h : 256 < n ∨ n ≠ m) :
    Calls Try.prog 17 #[.slice A n cap, .slice B m cap'] w fun e w' => e = .returned (.tuple #[.float .f32 0, .bool false]) ∧ w' = w := by
  have H := Lib.hid h; clear h
  go_enter Try.func17, Try.ntmps17
  go_wp2_with fail
  refine (i_dotOf_no A B n m cap cap' _ w H.out).mono ?_
  rintro e w' ⟨rfl, rfl⟩
  go_wp2
  go_ret2
  exact ⟨rfl, rfl⟩
theorem s_DotNumbers (A B : Option Addr) (cap cap' : Nat) (xs ys : List Nat) (w : World) (h : Fl w A xs) (h' : Fl w B ys) (hl : xs.length = ys.length) (hn : xs.length ≤ 256) :
    Calls Try.prog 16 #[.slice A xs.length cap, .slice B ys.length cap'] w fun e w' => ∃ r n, e = .returned (.tuple #[.float .f32 r, .bool true]) ∧ canon .f32 r = dotK xs ys xs.length ∧ w' = w.drewN n := by
  have H := Lib.hid (s_l01Dot A B cap cap' xs ys w h h' hl (by omega)); clear h h'
  have h2 : ((xs.length : Int) != (ys.length : Int)) = false := by rw [hl]; simp
  have HN := Lib.hid hn; clear hl hn
  go_enter Try.func16, Try.ntmps16
  go_wp2_with fail
  refine (s_l01Few_yes A _ cap _ HN.out).mono ?_
  rintro e w' ⟨rfl, rfl⟩
  go_wp2_with fail
  refine H.out.mono ?_
  rintro e w' ⟨r, n, rfl, hr, rfl⟩
  have HR := Lib.hid hr; clear hr
  go_wp2
  go_ret2
  exact ⟨_, _, rfl, HR.out, rfl⟩
theorem s_DotNumbers_no (A B : Option Addr) (n m cap cap' : Nat) (w : World) (h : 256 < n ∨ n ≠ m) :
    Calls Try.prog 16 #[.slice A n cap, .slice B m cap'] w fun e w' => e = .returned (.tuple #[.float .f32 0, .bool false]) ∧ w' = w := by
  by_cases h1 : 256 < n
  · clear h
    go_enter Try.func16, Try.ntmps16
    go_wp2_with fail
    refine (s_l01Few_no A n cap w h1).mono ?_
    rintro e w' ⟨rfl, rfl⟩
    go_wp2
    go_ret2
    exact ⟨rfl, rfl⟩
  · have h2 : ((n : Int) != (m : Int)) = true := by rw [bne_iff_ne]; omega
    have h3 : n ≤ 256 := by omega
    clear h h1
    go_enter Try.func16, Try.ntmps16
    go_wp2_with fail
    refine (s_l01Few_yes A n cap w h3).mono ?_
    rintro e w' ⟨rfl, rfl⟩
    go_wp2
    go_ret2
    exact ⟨rfl, rfl⟩
theorem law_FnExactDotNumbers (A : Option Addr) (cap : Nat) (xs : List Nat) (B : Option Addr) (cap' : Nat) (ys : List Nat) (w : World) (h : Fl w A xs) (hm : xs.length ≤ 9223372036854775807) (h' : Fl w B ys) (hm' : ys.length ≤ 9223372036854775807) :
    Calls Try.prog 6 #[.slice A xs.length cap, .slice B ys.length cap'] w fun e w' => e = .returned (.bool true) ∧ Below w.heap.size w w' := by
  by_cases hn : xs.length ≤ 1048576
  · by_cases hn' : ys.length ≤ 1048576
    · clear hm hm'
      go_enter Try.func6, Try.ntmps6
      go_wp2_with fail
      refine (l_toF32 A cap xs _ h hn).mono ?_
      rintro e w1 ⟨A1, cap1, rfl, h1, b1⟩
      have B1 := Lib.hid b1; clear b1
      go_wp2_with fail
      refine (l_toF32 B cap' ys _ (h'.below B1.out) hn').mono ?_
      rintro e w2 ⟨A2, cap2, rfl, h2, b2⟩
      have h1' : Fl w2 A1 xs := h1.below b2
      have B2 : Hid (Below w.heap.size w w2) := Lib.hid (B1.out.trans (b2.mono (by exact B1.out.size)))
      clear b2
      by_cases hf : xs.length ≤ 256 ∧ xs.length = ys.length
      · have HF := Lib.hid hf; clear hf
        go_wp2_with fail
        refine (s_DotNumbers A1 A2 cap1 cap2 xs ys _ h1' h2 HF.out.2 HF.out.1).mono ?_
        rintro e w3 ⟨r, n, rfl, hr, rfl⟩
        have HR := Lib.hid hr; clear hr
        go_wp2_with fail
        refine (l_toF32 A cap xs _ (h.below (below_draws B2.out n)) hn).mono ?_
        rintro e w3 ⟨A3, cap3, rfl, h3, b3⟩
        have B3 : Hid (Below w.heap.size w w3) := Lib.hid ((below_draws B2.out _).trans (b3.mono (by exact B2.out.size)))
        clear b3
        go_wp2_with fail
        refine (l_toF32 B cap' ys _ (h'.below B3.out) hn').mono ?_
        rintro e w4 ⟨A4, cap4, rfl, h4, b4⟩
        have h3' : Fl w4 A3 xs := h3.below b4
        have B4 : Hid (Below w.heap.size w w4) := Lib.hid (B3.out.trans (b4.mono (by exact B3.out.size)))
        clear b4
        go_wp2_with fail
        refine (i_DotNumbers A3 A4 cap3 cap4 xs ys _ h3' h4 HF.out.2 HF.out.1).mono ?_
        rintro e w5 ⟨r', n', rfl, hr, rfl⟩
        have HR' := Lib.hid hr; clear hr
        go_wp2_with fail
        refine (sameFloat_yes _ _ _ (by rw [canon_wideV, canon_wideV, HR.out, HR'.out])).mono ?_
        rintro e w' ⟨m, rfl, rfl⟩
        go_wp2_with fail
        refine (l_toF32 A cap xs _ (h.below (below_draws B4.out _)) hn).mono ?_
        rintro e w6 ⟨A6, cap6, rfl, h6, b6⟩
        have h3'' : Fl w6 A3 xs := Fl.below (w := World.drewN _ _) h3' b6
        have h4' : Fl w6 A4 ys := Fl.below (w := World.drewN _ _) h4 b6
        have B6 : Hid (Below w.heap.size w w6) := Lib.hid ((below_draws B4.out _).trans (b6.mono (by exact B4.out.size)))
        clear b6
        go_wp2_with fail
        refine (l_eqF32 A3 A6 cap3 cap6 xs _ h3'' h6 hn).mono ?_
        rintro e w' ⟨m2, rfl, rfl⟩
        go_wp2_with fail
        refine (l_toF32 B cap' ys _ (h'.below (below_draws B6.out _)) hn').mono ?_
        rintro e w7 ⟨A7, cap7, rfl, h7, b7⟩
        have h4'' : Fl w7 A4 ys := Fl.below (w := World.drewN _ _) h4' b7
        have B7 : Hid (Below w.heap.size w w7) := Lib.hid ((below_draws B6.out _).trans (b7.mono (by exact B6.out.size)))
        clear b7
        go_wp2_with fail
        refine (l_eqF32 A4 A7 cap4 cap7 ys _ h4'' h7 hn').mono ?_
        rintro e w' ⟨m3, rfl, rfl⟩
        go_wp2
        go_ret
        exact ⟨rfl, below_draws B7.out _⟩
      · have HF : Hid (256 < xs.length ∨ xs.length ≠ ys.length) := Lib.hid (by omega)
        clear hf
        go_wp2_with fail
        refine (s_DotNumbers_no A1 A2 _ _ cap1 cap2 _ HF.out).mono ?_
        rintro e w3 ⟨rfl, rfl⟩
        go_wp2_with fail
        refine (l_toF32 A cap xs _ (h.below B2.out) hn).mono ?_
        rintro e w3 ⟨A3, cap3, rfl, h3, b3⟩
        have B3 : Hid (Below w.heap.size w w3) := Lib.hid (B2.out.trans (b3.mono (by exact B2.out.size)))
        clear b3
        go_wp2_with fail
        refine (l_toF32 B cap' ys _ (h'.below B3.out) hn').mono ?_
        rintro e w4 ⟨A4, cap4, rfl, h4, b4⟩
        have h3' : Fl w4 A3 xs := h3.below b4
        have B4 : Hid (Below w.heap.size w w4) := Lib.hid (B3.out.trans (b4.mono (by exact B3.out.size)))
        clear b4
        go_wp2_with fail
        refine (i_DotNumbers_no A3 A4 _ _ cap3 cap4 _ HF.out).mono ?_
        rintro e w5 ⟨rfl, rfl⟩
        go_wp2_with fail
        refine (sameFloat_yes _ _ _ (by rw [canon_wideV, canon_wideV])).mono ?_
        rintro e w' ⟨m, rfl, rfl⟩
        go_wp2_with fail
        refine (l_toF32 A cap xs _ (h.below (below_draws B4.out _)) hn).mono ?_
        rintro e w6 ⟨A6, cap6, rfl, h6, b6⟩
        have h3'' : Fl w6 A3 xs := Fl.below (w := World.drewN _ _) h3' b6
        have h4' : Fl w6 A4 ys := Fl.below (w := World.drewN _ _) h4 b6
        have B6 : Hid (Below w.heap.size w w6) := Lib.hid ((below_draws B4.out _).trans (b6.mono (by exact B4.out.size)))
        clear b6
        go_wp2_with fail
        refine (l_eqF32 A3 A6 cap3 cap6 xs _ h3'' h6 hn).mono ?_
        rintro e w' ⟨m2, rfl, rfl⟩
        go_wp2_with fail
        refine (l_toF32 B cap' ys _ (h'.below (below_draws B6.out _)) hn').mono ?_
        rintro e w7 ⟨A7, cap7, rfl, h7, b7⟩
        have h4'' : Fl w7 A4 ys := Fl.below (w := World.drewN _ _) h4' b7
        have B7 : Hid (Below w.heap.size w w7) := Lib.hid ((below_draws B6.out _).trans (b7.mono (by exact B6.out.size)))
        clear b7
        go_wp2_with fail
        refine (l_eqF32 A4 A7 cap4 cap7 ys _ h4'' h7 hn').mono ?_
        rintro e w' ⟨m3, rfl, rfl⟩
        go_wp2
        go_ret
        exact ⟨rfl, below_draws B7.out _⟩
    · go_enter Try.func6, Try.ntmps6
      go_wp2
      go_ret
      exact ⟨rfl, Below.refl _ _⟩
  · go_enter Try.func6, Try.ntmps6
    go_wp2
    go_ret
    exact ⟨rfl, Below.refl _ _⟩
end Go.Proofs.Ytbgcelodgefanag
