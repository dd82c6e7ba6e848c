/- Loads: what is valid, their mean, the share of great ones: both sides. No statement is proved here. -/
import Derived.Test.YtpmjikchlofebaaWin
import Derived.Test.YtpmjikchlofebaaBoth
namespace Go.Proofs.Ytpmjikchlofebaa
open Go Go.RowKit
/-- a list of loads -/
def ldV (xs : List Nat) : Bool := decide (1 ≤ xs.length ∧ xs.length ≤ 64) && fins xs xs.length
theorem ldV_len {xs : List Nat} (h : ldV xs = true) : 1 ≤ xs.length ∧ xs.length ≤ 64 := by
  unfold ldV at h; rw [Bool.and_eq_true] at h; exact of_decide_eq_true h.1
theorem ldV_fin {xs : List Nat} (h : ldV xs = true) : fins xs xs.length = true := by
  unfold ldV at h; rw [Bool.and_eq_true] at h; exact h.2
theorem ldV_no {xs : List Nat} (h : ¬ (1 ≤ xs.length ∧ xs.length ≤ 64)) : ldV xs = false := by unfold ldV; rw [decide_eq_false h]; rfl
theorem ldV_yes {xs : List Nat} (h : 1 ≤ xs.length ∧ xs.length ≤ 64) : ldV xs = fins xs xs.length := by unfold ldV; rw [decide_eq_true h]; rfl
theorem ldV_f {xs : List Nat} {k : Nat} (h : fins xs k = false) (hk : k ≤ xs.length) : ldV xs = false := by unfold ldV; rw [fins_no h hk, Bool.and_false]
def mlO (xs : List Nat) : Bool := ldV xs && fin .f32 (meanV xs)
def mlR (xs : List Nat) : Nat := if ldV xs then onlyN (meanV xs) else 0
/-- how many numbers are at least as great -/
def cntGe (xs : List Nat) (l : Nat) : Nat → Nat
  | 0 => 0
  | k + 1 => cntGe xs l k + if geq32 (xs.getD k 0) l then 1 else 0
theorem cntGe_le (xs : List Nat) (l : Nat) : ∀ k, cntGe xs l k ≤ k := by
  intro k; induction k with
  | zero => exact Nat.le_refl _
  | succ k ih => simp only [cntGe]; split <;> omega
def excV (xs : List Nat) (l : Nat) : Nat := fop .quo .f32 (cntN (cntGe xs l xs.length)) (cntN xs.length)
def excR (xs : List Nat) (l : Nat) : Nat := if ldV xs then excV xs l else 0
theorem i_areLoads (A : Option Addr) (cap : Nat) (xs : List Nat) (w : World) (h : Fl w A xs) (hn : xs.length ≤ 1048576) :
    Calls Try.prog 106 #[.slice A xs.length cap] w fun e w' => e = .returned (.bool (ldV xs)) ∧ ∃ n, w' = w.drewN n := by
  have HF := Lib.hid h; clear h
  by_cases h1 : 1 ≤ xs.length
  · by_cases h2 : xs.length ≤ 64
    · have HY : Hid (ldV xs = fins xs xs.length) := Lib.hid (ldV_yes ⟨h1, h2⟩)
      go_enter Try.func106, Try.ntmps106
      go_wp2_with fail
      refine (i_hasInfinite A cap xs _ HF.out hn).mono ?_
      rintro e w' ⟨n, rfl, rfl⟩
      go_wp2
      go_ret
      exact ⟨by rw [HY.out]; simp, n, rfl⟩
    · have HY : Hid (ldV xs = false) := Lib.hid (ldV_no (by omega))
      go_enter Try.func106, Try.ntmps106
      go_wp2
      go_ret
      exact ⟨by rw [HY.out]; rfl, 0, rfl⟩
  · have HY : Hid (ldV xs = false) := Lib.hid (ldV_no (by omega))
    go_enter Try.func106, Try.ntmps106
    go_wp2
    go_ret
    exact ⟨by rw [HY.out]; rfl, 0, rfl⟩
set_option maxHeartbeats 4000000 in
theorem s_l07Loads (A : Option Addr) (cap : Nat) (xs : List Nat) (w : World) (h : Fl w A xs) (hn : xs.length ≤ 1048576) :
    Calls Try.prog 100 #[.slice A xs.length cap] w fun e w' => e = .returned (.bool (ldV xs)) ∧ ∃ n, w' = w.drewN n := by
  have HF := Lib.hid h; clear h
  go_enter Try.func100, Try.ntmps100
  go_wp2
  go_loopw [6] (fun i wr => ∃ k n : Nat, k ≤ xs.length ∧ i = .int .i64 k ∧ Hid (fins xs k = true) ∧ wr = w.drewN n) (fun i _ => xs.length - (intOf i).toNat)
  case atStart => exact ⟨0, 0, Nat.zero_le _, rfl, rfl, rfl⟩
  case round =>
    obtain ⟨k, n, hk, rfl, hr, rfl⟩ := hrel
    by_cases hlt : k < xs.length
    · obtain ⟨b, off, rfl, hb, hc⟩ := HF.out.at_ hlt
      have HA : Hid (fins xs (k + 1) = fin .f32 (xs.getD k 0)) := Lib.hid (by show (fins xs k && _) = _; rw [hr.out]; rfl)
      have HNo : Hid (fins xs (k + 1) = false → ldV xs = false) := Lib.hid (fun h => ldV_f h (by omega))
      obtain ⟨x, hx⟩ : ∃ x, x = xs.getD k 0 := ⟨_, rfl⟩
      rw [← hx] at hc
      have HX := Lib.hid hx; clear hx hb
      go_wp2_with fail
      refine (s_l01Finite _ _).mono ?_
      rintro e w' ⟨m, rfl, rfl⟩
      cases p : fin .f32 x
      · have HN : Hid (ldV xs = false) := Lib.hid (HNo.out (by rw [HA.out, ← HX.out, p]))
        go_wp2
        go_ret
        exact ⟨by rw [HN.out]; rfl, _, by first | rfl | exact World.drewN_drewN ..⟩
      · have HG : Hid (fins xs (k + 1) = true) := Lib.hid (by rw [HA.out, ← HX.out, p])
        go_wp2
        go_roundw
        case rel => exact ⟨k + 1, _, by omega, by go_num, HG, by first | rfl | exact World.drewN_drewN ..⟩
        case measure => simp [intOf]; omega
    · have hkk : k = xs.length := by omega
      subst hkk
      by_cases h1 : 1 ≤ xs.length
      · by_cases h2 : xs.length ≤ 64
        · have HN : Hid (ldV xs = true) := Lib.hid (by rw [ldV_yes ⟨h1, h2⟩, hr.out])
          have HE : Hid (decide ((xs.length : Int) ≤ 64) = true) := Lib.hid (decide_eq_true (by omega))
          go_wp2
          go_ret
          exact ⟨by rw [HN.out]; show Ending.returned (.bool (decide ((xs.length : Int) ≤ 64))) = _; rw [HE.out], n, rfl⟩
        · have HN : Hid (ldV xs = false) := Lib.hid (ldV_no (by omega))
          have HE : Hid (decide ((xs.length : Int) ≤ 64) = false) := Lib.hid (decide_eq_false (by omega))
          go_wp2
          go_ret
          exact ⟨by rw [HN.out]; show Ending.returned (.bool (decide ((xs.length : Int) ≤ 64))) = _; rw [HE.out], n, rfl⟩
      · have HN : Hid (ldV xs = false) := Lib.hid (ldV_no (by omega))
        have h0 : xs.length = 0 := by omega
        go_wp2
        go_ret
        exact ⟨by rw [HN.out]; rfl, n, rfl⟩
end Go.Proofs.Ytpmjikchlofebaa
