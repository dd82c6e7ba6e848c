/- Loads: what is valid, their mean, the share of great ones: both sides. No statement is proved here. -/
import Derived.Test.YtpchkedgjikpfaaWin
import Derived.Test.YtpchkedgjikpfaaBoth
namespace Go.Proofs.Ytpchkedgjikpfaa
open Go Go.RowKit
/-- a list of loads -/
def ldV (xs : List Nat) : Bool := decide (1 ≤ xs.length ∧ xs.length ≤ 64) && fins xs xs.length
theorem ldV_len {xs : List Nat} (h : ldV xs = true) : 1 ≤ xs.length ∧ xs.length ≤ 64 := by
  unfold ldV at h; rw [Bool.and_eq_true] at h; exact of_decide_eq_true h.1
theorem ldV_fin {xs : List Nat} (h : ldV xs = true) : fins xs xs.length = true := by
  unfold ldV at h; rw [Bool.and_eq_true] at h; exact h.2
theorem ldV_no {xs : List Nat} (h : ¬ (1 ≤ xs.length ∧ xs.length ≤ 64)) : ldV xs = false := by unfold ldV; rw [decide_eq_false h]; rfl
theorem ldV_yes {xs : List Nat} (h : 1 ≤ xs.length ∧ xs.length ≤ 64) : ldV xs = fins xs xs.length := by unfold ldV; rw [decide_eq_true h]; rfl
theorem ldV_f {xs : List Nat} {k : Nat} (h : fins xs k = false) (hk : k ≤ xs.length) : ldV xs = false := by unfold ldV; rw [fins_no h hk, Bool.and_false]
def mlO (xs : List Nat) : Bool := ldV xs && fin .f32 (meanV xs)
def mlR (xs : List Nat) : Nat := if ldV xs then onlyN (meanV xs) else 0
/-- how many numbers are at least as great -/
def cntGe (xs : List Nat) (l : Nat) : Nat → Nat
  | 0 => 0
  | k + 1 => cntGe xs l k + if geq32 (xs.getD k 0) l then 1 else 0
theorem cntGe_le (xs : List Nat) (l : Nat) : ∀ k, cntGe xs l k ≤ k := by
  intro k; induction k with
  | zero => exact Nat.le_refl _
  | succ k ih => simp only [cntGe]; split <;> omega
def excV (xs : List Nat) (l : Nat) : Nat := fop .quo .f32 (cntN (cntGe xs l xs.length)) (cntN xs.length)
def excR (xs : List Nat) (l : Nat) : Nat := if ldV xs then excV xs l else 0
theorem i_areLoads (A : Option Addr) (cap : Nat) (xs : List Nat) (w : World) (h : Fl w A xs) (hn : xs.length ≤ 1048576) :
    Calls Try.prog 73 #[.slice A xs.length cap] w fun e w' => e = .returned (.bool (ldV xs)) ∧ ∃ n, w' = w.drewN n := by
  have HF := Lib.hid h; clear h
  by_cases h1 : 1 ≤ xs.length
  · by_cases h2 : xs.length ≤ 64
    · have HY : Hid (ldV xs = fins xs xs.length) := Lib.hid (ldV_yes ⟨h1, h2⟩)
      go_enter Try.func73, Try.ntmps73
      go_wp2_with fail
      refine (i_hasInfinite A cap xs _ HF.out hn).mono ?_
      rintro e w' ⟨n, rfl, rfl⟩
      go_wp2
      go_ret
      exact ⟨by rw [HY.out]; simp, n, rfl⟩
    · have HY : Hid (ldV xs = false) := Lib.hid (ldV_no (by omega))
      go_enter Try.func73, Try.ntmps73
      go_wp2
      go_ret
      exact ⟨by rw [HY.out]; rfl, 0, rfl⟩
  · have HY : Hid (ldV xs = false) := Lib.hid (ldV_no (by omega))
    go_enter Try.func73, Try.ntmps73
    go_wp2
    go_ret
    exact ⟨by rw [HY.out]; rfl, 0, rfl⟩
set_option maxHeartbeats 4000000 in
theorem s_l07Loads (A : Option Addr) (cap : Nat) (xs : List Nat) (w : World) (h : Fl w A xs) (hn : xs.length ≤ 1048576) :
    Calls Try.prog 71 #[.slice A xs.length cap] w fun e w' => e = .returned (.bool (ldV xs)) ∧ ∃ n, w' = w.drewN n := by
  have HF := Lib.hid h; clear h
  go_enter Try.func71, Try.ntmps71
  go_wp2
  go_loopw [6] (fun i wr => ∃ k n : Nat, k ≤ xs.length ∧ i = .int .i64 k ∧ Hid (fins xs k = true) ∧ wr = w.drewN n) (fun i _ => xs.length - (intOf i).toNat)
  case atStart => exact ⟨0, 0, Nat.zero_le _, rfl, rfl, rfl⟩
  case round =>
    obtain ⟨k, n, hk, rfl, hr, rfl⟩ := hrel
    by_cases hlt : k < xs.length
    · obtain ⟨b, off, rfl, hb, hc⟩ := HF.out.at_ hlt
      have HA : Hid (fins xs (k + 1) = fin .f32 (xs.getD k 0)) := Lib.hid (by show (fins xs k && _) = _; rw [hr.out]; rfl)
      have HNo : Hid (fins xs (k + 1) = false → ldV xs = false) := Lib.hid (fun h => ldV_f h (by omega))
      obtain ⟨x, hx⟩ : ∃ x, x = xs.getD k 0 := ⟨_, rfl⟩
      rw [← hx] at hc
      have HX := Lib.hid hx; clear hx hb
      go_wp2_with fail
      refine (s_l01Finite _ _).mono ?_
      rintro e w' ⟨m, rfl, rfl⟩
      cases p : fin .f32 x
      · have HN : Hid (ldV xs = false) := Lib.hid (HNo.out (by rw [HA.out, ← HX.out, p]))
        go_wp2
        go_ret
        exact ⟨by rw [HN.out]; rfl, _, by first | rfl | exact World.drewN_drewN ..⟩
      · have HG : Hid (fins xs (k + 1) = true) := Lib.hid (by rw [HA.out, ← HX.out, p])
        go_wp2
        go_roundw
        case rel => exact ⟨k + 1, _, by omega, by go_num, HG, by first | rfl | exact World.drewN_drewN ..⟩
        case measure => simp [intOf]; omega
    · have hkk : k = xs.length := by omega
      subst hkk
      by_cases h1 : 1 ≤ xs.length
      · by_cases h2 : xs.length ≤ 64
        · have HN : Hid (ldV xs = true) := Lib.hid (by rw [ldV_yes ⟨h1, h2⟩, hr.out])
          have HE : Hid (decide ((xs.length : Int) ≤ 64) = true) := Lib.hid (decide_eq_true (by omega))
          go_wp2
          go_ret
          exact ⟨by rw [HN.out]; show Ending.returned (.bool (decide ((xs.length : Int) ≤ 64))) = _; rw [HE.out], n, rfl⟩
        · have HN : Hid (ldV xs = false) := Lib.hid (ldV_no (by omega))
          have HE : Hid (decide ((xs.length : Int) ≤ 64) = false) := Lib.hid (decide_eq_false (by omega))
          go_wp2
          go_ret
          exact ⟨by rw [HN.out]; show Ending.returned (.bool (decide ((xs.length : Int) ≤ 64))) = _; rw [HE.out], n, rfl⟩
      · have HN : Hid (ldV xs = false) := Lib.hid (ldV_no (by omega))
        have h0 : xs.length = 0 := by omega
        go_wp2
        go_ret
        exact ⟨by rw [HN.out]; rfl, n, rfl⟩
theorem i_MeanLoad (A : Option Addr) (cap : Nat) (xs : List Nat) (w : World) (h : Fl w A xs) (hn : xs.length ≤ 1048576) :
    Calls Try.prog 32 #[.slice A xs.length cap] w fun e w' => ∃ r n, e = .returned (.tuple #[.float .f32 r, .bool (mlO xs)]) ∧ canon .f32 r = mlR xs ∧ w' = w.drewN n := by
  have HF := Lib.hid h; clear h
  go_enter Try.func32, Try.ntmps32
  go_wp2_with fail
  refine (i_areLoads A cap xs _ HF.out hn).mono ?_
  rintro e w' ⟨rfl, n1, rfl⟩
  cases v : ldV xs
  · go_wp2
    go_ret2
    exact ⟨_, _, by unfold mlO; rw [v]; rfl, by unfold mlR; rw [v]; exact canon_zero, rfl⟩
  · have V := Lib.hid v; clear v
    go_wp2_with fail
    refine (i_evenMean A cap xs _ (HF.out.draws _) (by have := (ldV_len V.out).2; omega)).mono ?_
    rintro e w' ⟨r, n2, rfl, hr, rfl⟩
    go_wp2_with fail
    refine (i_onlyFiniteC _ _ _ hr).mono ?_
    rintro e w' ⟨r', n3, rfl, hr', rfl⟩
    have HR := Lib.hid hr'; clear hr hr'
    go_wp2
    go_ret2
    exact ⟨_, _, by unfold mlO; rw [V.out]; rfl, by rw [HR.out]; unfold mlR; rw [V.out]; rfl, by first | rfl | (simp only [World.drewN_drewN]; rfl)⟩
theorem s_l07Sum (A : Option Addr) (cap : Nat) (xs : List Nat) (w : World) (h : Fl w A xs) (hn : xs.length ≤ 1048576) :
    Calls Try.prog 72 #[.slice A xs.length cap] w fun e w' => ∃ r n, e = .returned (.float .f32 r) ∧ canon .f32 r = sumK xs xs.length ∧ w' = w.drewN n := by
  go_enter Try.func72, Try.ntmps72
  go_wp2
  go_loopw [3, 7] (fun s i wr => ∃ k n r : Nat, k ≤ xs.length ∧ i = .int .i64 k ∧ s = .float .f32 r ∧ Hid (canon .f32 r = sumK xs k) ∧ wr = w.drewN n) (fun _ i _ => xs.length - (intOf i).toNat)
  case atStart => exact ⟨0, 0, 0, Nat.zero_le _, rfl, rfl, canon_zero, rfl⟩
  case round =>
    obtain ⟨k, n, r, hk, rfl, rfl, hr, rfl⟩ := hrel
    by_cases hlt : k < xs.length
    · obtain ⟨b, off, rfl, hb, hc⟩ := h.at_ hlt
      have HF := Lib.hid h; clear h
      have HS : Hid (sumK xs (k + 1) = fop .add .f32 (sumK xs k) (canon .f32 (xs.getD k 0))) := rfl
      generalize xs.getD k 0 = x at hc HS
      go_wp2
      go_roundw
      case rel => exact ⟨k + 1, _, _, by omega, by go_num, rfl, Lib.hid (by rw [canon_fopV, hr.out, HS.out]), rfl⟩
      case measure => simp [intOf]; omega
    · have hkk : k = xs.length := by omega
      subst hkk
      go_wp2
      go_ret
      exact ⟨_, _, rfl, hr.out, rfl⟩
theorem s_MeanLoad (A : Option Addr) (cap : Nat) (xs : List Nat) (w : World) (h : Fl w A xs) (hn : xs.length ≤ 1048576) :
    Calls Try.prog 31 #[.slice A xs.length cap] w fun e w' => ∃ r n, e = .returned (.tuple #[.float .f32 r, .bool (mlO xs)]) ∧ canon .f32 r = mlR xs ∧ w' = w.drewN n := by
  have HF := Lib.hid h; clear h
  go_enter Try.func31, Try.ntmps31
  go_wp2_with fail
  refine (s_l07Loads A cap xs _ HF.out hn).mono ?_
  rintro e w' ⟨rfl, n1, rfl⟩
  cases v : ldV xs
  · go_wp2
    go_ret2
    exact ⟨_, _, by unfold mlO; rw [v]; rfl, by unfold mlR; rw [v]; exact canon_zero, rfl⟩
  · have V := Lib.hid v; clear v
    go_wp2_with fail
    refine (s_l07Sum A cap xs _ (HF.out.draws _) hn).mono ?_
    rintro e w' ⟨r, n2, rfl, hr, rfl⟩
    have hq : ∀ W : World, canon .f32 (fopV .quo .f32 r (floatOfInt .f32 (xs.length : Int)) W) = meanV xs := fun W => canonF hr rfl
    have HQ := Lib.hid hq; clear hr hq
    go_wp2_with fail
    refine (s_l03NumberC _ (meanV xs) _ (HQ.out _)).mono ?_
    rintro e w' ⟨r', n3, rfl, hr', rfl⟩
    have HR := Lib.hid hr'; clear hr'
    go_wp2
    go_ret2
    exact ⟨_, _, by unfold mlO; rw [V.out]; rfl, by rw [HR.out]; unfold mlR; rw [V.out]; rfl, by first | rfl | (simp only [World.drewN_drewN]; rfl)⟩
set_option maxHeartbeats 4000000 in
theorem i_ExceedOf (A : Option Addr) (cap : Nat) (xs : List Nat) (l : Nat) (w : World) (h : Fl w A xs) (hn : xs.length ≤ 1048576) :
    Calls Try.prog 34 #[.slice A xs.length cap, .float .f32 l] w fun e w' => ∃ r n, e = .returned (.tuple #[.float .f32 r, .bool (ldV xs)]) ∧ canon .f32 r = excR xs l ∧ w' = w.drewN n := by
  have HF := Lib.hid h; clear h
  go_enter Try.func34, Try.ntmps34
  go_wp2_with fail
  refine (i_areLoads A cap xs _ HF.out hn).mono ?_
  rintro e w1 ⟨rfl, n1, hw⟩
  have HW := Lib.hid hw
  have hf1 : Fl w1 A xs := by rw [hw]; exact HF.out.draws _
  have HF1 := Lib.hid hf1
  clear hw hf1
  cases v : ldV xs
  · go_wp2
    go_ret2
    exact ⟨_, n1, by rw [v]; rfl, by unfold excR; rw [v]; exact canon_zero, HW.out⟩
  · have V := Lib.hid v; clear v
    go_wp2_with fail
    go_loopw [6, 14] (fun s i wr => ∃ k : Nat, k ≤ xs.length ∧ i = .int .i64 k ∧ s = .int .i64 (cntGe xs l k : Nat) ∧ wr = w1) (fun _ i _ => xs.length - (intOf i).toNat)
    case atStart => exact ⟨0, Nat.zero_le _, rfl, rfl, rfl⟩
    case round =>
      obtain ⟨k, hk, rfl, rfl, rfl⟩ := hrel
      by_cases hlt : k < xs.length
      · obtain ⟨b, off, rfl, hb, hc⟩ := HF1.out.at_ hlt
        have HS : Hid (cntGe xs l (k + 1) = cntGe xs l k + if geq32 (xs.getD k 0) l then 1 else 0) := rfl
        have hle := cntGe_le xs l k
        generalize cntGe xs l k = c at HS hle ⊢
        generalize xs.getD k 0 = x at hc HS
        have e1 : IntKind.i64.wrap ((c : Int) + 1) = ((c + 1 : Nat) : Int) := by rw [IntWalk.i64_in _ (by omega)]; rfl
        cases hg : geq32 x l
        · have HN : Hid (cntGe xs l (k + 1) = c) := Lib.hid (by rw [HS.out, hg]; rfl)
          unfold geq32 at hg
          go_wp2
          go_roundw
          case rel => exact ⟨k + 1, by omega, by go_num, by rw [HN.out]; first | done | rfl | exact congrArg (Value.int .i64) (by omega), by first | rfl | trivial⟩
          case measure => simp [intOf]; omega
        · have HN : Hid (cntGe xs l (k + 1) = c + 1) := Lib.hid (by rw [HS.out, hg]; rfl)
          unfold geq32 at hg
          go_wp2
          go_roundw
          case rel => exact ⟨k + 1, by omega, by go_num, by rw [HN.out]; first | done | rfl | exact congrArg (Value.int .i64) (by omega), by first | rfl | trivial⟩
          case measure => simp [intOf]; omega
      · have hkk : k = xs.length := by omega
        subst hkk
        have HE : Hid (excR xs l = fop .quo .f32 (cntN (cntGe xs l xs.length)) (cntN xs.length)) := Lib.hid (by unfold excR; rw [V.out]; rfl)
        generalize cntGe xs l xs.length = c at HE ⊢
        go_wp2
        go_ret2
        exact ⟨_, _, by rw [V.out]; rfl, by rw [HE.out]; exact canonF rfl rfl, by rw [HW.out]; first | rfl | (simp only [World.drewN_drewN]; rfl)⟩
set_option maxHeartbeats 4000000 in
theorem s_ExceedOf (A : Option Addr) (cap : Nat) (xs : List Nat) (l : Nat) (w : World) (h : Fl w A xs) (hn : xs.length ≤ 1048576) :
    Calls Try.prog 33 #[.slice A xs.length cap, .float .f32 l] w fun e w' => ∃ r n, e = .returned (.tuple #[.float .f32 r, .bool (ldV xs)]) ∧ canon .f32 r = excR xs l ∧ w' = w.drewN n := by
  have HF := Lib.hid h; clear h
  go_enter Try.func33, Try.ntmps33
  go_wp2_with fail
  refine (s_l07Loads A cap xs _ HF.out hn).mono ?_
  rintro e w1 ⟨rfl, n1, hw⟩
  have HW := Lib.hid hw
  have hf1 : Fl w1 A xs := by rw [hw]; exact HF.out.draws _
  have HF1 := Lib.hid hf1
  clear hw hf1
  cases v : ldV xs
  · go_wp2
    go_ret2
    exact ⟨_, n1, by rw [v]; rfl, by unfold excR; rw [v]; exact canon_zero, HW.out⟩
  · have V := Lib.hid v; clear v
    go_wp2_with fail
    go_loopw [6, 13] (fun s i wr => ∃ k : Nat, k ≤ xs.length ∧ i = .int .i64 k ∧ s = .int .i64 (cntGe xs l k : Nat) ∧ wr = w1) (fun _ i _ => xs.length - (intOf i).toNat)
    case atStart => exact ⟨0, Nat.zero_le _, rfl, rfl, rfl⟩
    case round =>
      obtain ⟨k, hk, rfl, rfl, rfl⟩ := hrel
      by_cases hlt : k < xs.length
      · obtain ⟨b, off, rfl, hb, hc⟩ := HF1.out.at_ hlt
        have HS : Hid (cntGe xs l (k + 1) = cntGe xs l k + if geq32 (xs.getD k 0) l then 1 else 0) := rfl
        have hle := cntGe_le xs l k
        generalize cntGe xs l k = c at HS hle ⊢
        generalize xs.getD k 0 = x at hc HS
        have e1 : IntKind.i64.wrap ((c : Int) + 1) = ((c + 1 : Nat) : Int) := by rw [IntWalk.i64_in _ (by omega)]; rfl
        cases hg : geq32 x l
        · have HN : Hid (cntGe xs l (k + 1) = c) := Lib.hid (by rw [HS.out, hg]; rfl)
          unfold geq32 at hg
          go_wp2
          go_roundw
          case rel => exact ⟨k + 1, by omega, by go_num, by rw [HN.out]; first | done | rfl | exact congrArg (Value.int .i64) (by omega), by first | rfl | trivial⟩
          case measure => simp [intOf]; omega
        · have HN : Hid (cntGe xs l (k + 1) = c + 1) := Lib.hid (by rw [HS.out, hg]; rfl)
          unfold geq32 at hg
          go_wp2
          go_roundw
          case rel => exact ⟨k + 1, by omega, by go_num, by rw [HN.out]; first | done | rfl | exact congrArg (Value.int .i64) (by omega), by first | rfl | trivial⟩
          case measure => simp [intOf]; omega
      · have hkk : k = xs.length := by omega
        subst hkk
        have HE : Hid (excR xs l = fop .quo .f32 (cntN (cntGe xs l xs.length)) (cntN xs.length)) := Lib.hid (by unfold excR; rw [V.out]; rfl)
        generalize cntGe xs l xs.length = c at HE ⊢
        go_wp2
        go_ret2
        exact ⟨_, _, by rw [V.out]; rfl, by rw [HE.out]; exact canonF rfl rfl, by rw [HW.out]; first | rfl | (simp only [World.drewN_drewN]; rfl)⟩
end Go.Proofs.Ytpchkedgjikpfaa
