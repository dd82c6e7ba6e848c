/- Winds: what is valid, their means. No statement is proved here. -/
import Derived.Test.YtpmjikchlofebaaAirL
import Derived.Test.YtpmjikchlofebaaNotFin
import Derived.Test.YtpmjikchlofebaaRoot
import Derived.Test.YtpmjikchlofebaaSums
namespace Go.Proofs.Ytpmjikchlofebaa
open Go Go.RowKit
/-- a list of winds -/
def winV (xs : List Nat) : Bool := decide (1 ≤ xs.length ∧ xs.length ≤ 256) && amts xs xs.length
theorem winV_len {xs : List Nat} (h : winV xs = true) : 1 ≤ xs.length ∧ xs.length ≤ 256 := by
  unfold winV at h; rw [Bool.and_eq_true] at h; exact of_decide_eq_true h.1
theorem winV_no {xs : List Nat} (h : ¬ (1 ≤ xs.length ∧ xs.length ≤ 256)) : winV xs = false := by unfold winV; rw [decide_eq_false h]; rfl
theorem winV_yes {xs : List Nat} (h : 1 ≤ xs.length ∧ xs.length ≤ 256) : winV xs = amts xs xs.length := by unfold winV; rw [decide_eq_true h]; rfl
def cntN (n : Nat) : Nat := canon .f32 (floatOfInt .f32 (n : Int))
/-- the mean of winds -/
def meanV (xs : List Nat) : Nat := fop .quo .f32 (sumK xs xs.length) (cntN xs.length)
def mwO (xs : List Nat) : Bool := winV xs && fin .f32 (meanV xs)
def mwR (xs : List Nat) : Nat := if winV xs then onlyN (meanV xs) else 0
/-- the sum of squares of what numbers are more than another one -/
def sqAt (xs : List Nat) (m k : Nat) : Nat := fop .mul .f32 (fop .sub .f32 (canon .f32 (xs.getD k 0)) m) (fop .sub .f32 (canon .f32 (xs.getD k 0)) m)
def sqK (xs : List Nat) (m : Nat) : Nat → Nat
  | 0 => 0
  | k + 1 => fop .add .f32 (sqK xs m k) (sqAt xs m k)
def sprV (xs : List Nat) : Nat := canon .f32 (rootF (fop .quo .f32 (sqK xs (meanV xs) xs.length) (cntN xs.length)))
def sprO (xs : List Nat) : Bool := winV xs && fin .f32 (sprV xs)
def sprR (xs : List Nat) : Nat := if winV xs then onlyN (sprV xs) else 0
theorem sqK_not_fin (xs : List Nat) {m : Nat} (hm : fin .f32 m = false) : ∀ k, 1 ≤ k → fin .f32 (sqK xs m k) = false := by
  intro k; cases k with
  | zero => intro h; omega
  | succ k => intro _; exact addR_not_fin (mulL_not_fin (subR_not_fin hm))
theorem root_not_fin {c : Nat} (h : fin .f32 c = false) : fin .f32 (canon .f32 (rootF c)) = false := by
  rw [fin_canon]
  cases hd : FloatKind.f32.decode c with
  | nan s f =>
    have hn : isn .f32 c = true := isn_iff.2 ⟨s, f, hd⟩
    have h1 : isn .f64 (canon .f64 (wide c)) = true := by rw [isn_canon, isn_wide, hn]
    unfold rootF fsqrt
    rw [sqrt_nan h1]; decide +kernel
  | infinity s =>
    have hn : isn .f32 c = false := by unfold isn; rw [hd]; rfl
    have hw : wide c = FloatKind.f64.encode (.infinity s) := by unfold wide; rw [if_neg (by rw [hn]; decide), hd]
    unfold rootF
    rw [hw]
    cases s <;> decide +kernel
  | number s m e => unfold fin at h; rw [hd] at h; cases h
theorem sprV_mean {xs : List Nat} (h : winV xs = true) (hm : fin .f32 (meanV xs) = false) : fin .f32 (sprV xs) = false := by
  unfold sprV
  exact root_not_fin (quoL_not_fin (sqK_not_fin xs hm _ (winV_len h).1))
theorem sumK_sq {xs ys : List Nat} {m n : Nat} (h : ∀ k, k < n → canon .f32 (ys.getD k 0) = sqAt xs m k) : ∀ k, k ≤ n → sumK ys k = sqK xs m k := by
  intro k; induction k with
  | zero => intro _; rfl
  | succ k ih => intro hk; simp only [sumK, sqK, ih (by omega), h k (by omega)]
theorem onlyN_fin {x : Nat} (h : fin .f32 x = true) : onlyN x = x := by unfold onlyN; rw [h]; rfl
theorem i_areWinds (A : Option Addr) (cap : Nat) (xs : List Nat) (w : World) (h : Fl w A xs) (hn : xs.length ≤ 1048576) :
    Calls Try.prog 79 #[.slice A xs.length cap] w fun e w' => e = .returned (.bool (winV xs)) ∧ ∃ n, w' = w.drewN n := by
  have HF := Lib.hid h; clear h
  by_cases h1 : 1 ≤ xs.length
  · by_cases h2 : xs.length ≤ 256
    · have HY : Hid (winV xs = amts xs xs.length) := Lib.hid (winV_yes ⟨h1, h2⟩)
      go_enter Try.func79, Try.ntmps79
      go_wp2_with fail
      refine (i_hasNoAmount A cap xs _ HF.out hn).mono ?_
      rintro e w' ⟨n, rfl, rfl⟩
      go_wp2
      go_ret
      exact ⟨by rw [HY.out]; simp, n, rfl⟩
    · have HY : Hid (winV xs = false) := Lib.hid (winV_no (by omega))
      go_enter Try.func79, Try.ntmps79
      go_wp2
      go_ret
      exact ⟨by rw [HY.out]; rfl, 0, rfl⟩
  · have HY : Hid (winV xs = false) := Lib.hid (winV_no (by omega))
    go_enter Try.func79, Try.ntmps79
    go_wp2
    go_ret
    exact ⟨by rw [HY.out]; rfl, 0, rfl⟩
set_option maxHeartbeats 4000000 in
theorem s_l04Winds (A : Option Addr) (cap : Nat) (xs : List Nat) (w : World) (h : Fl w A xs) (hn : xs.length ≤ 1048576) :
    Calls Try.prog 75 #[.slice A xs.length cap] w fun e w' => e = .returned (.bool (winV xs)) ∧ ∃ n, w' = w.drewN n := by
  have HF := Lib.hid h; clear h
  go_enter Try.func75, Try.ntmps75
  go_wp2
  go_loopw [3] (fun i wr => ∃ k n : Nat, k ≤ xs.length ∧ (k = 0 ∨ xs.length ≤ 256) ∧ i = .int .i64 k ∧ Hid (amts xs k = true) ∧ wr = w.drewN n) (fun i _ => xs.length - (intOf i).toNat)
  case atStart => exact ⟨0, 0, Nat.zero_le _, .inl rfl, rfl, rfl, rfl⟩
  case round =>
    obtain ⟨k, n, hk, hk0, rfl, hr, rfl⟩ := hrel
    by_cases hlt : k < xs.length
    · by_cases h2 : xs.length ≤ 256
      · obtain ⟨b, off, rfl, hb, hc⟩ := HF.out.at_ hlt
        have HA : Hid (amts xs (k + 1) = amount (xs.getD k 0)) := Lib.hid (by show (amts xs k && _) = _; rw [hr.out]; rfl)
        have HNo : Hid (amts xs (k + 1) = false → winV xs = false) := Lib.hid (fun h => by rw [winV_yes (by omega)]; exact amts_no h (by omega))
        obtain ⟨x, hx⟩ : ∃ x, x = xs.getD k 0 := ⟨_, rfl⟩
        rw [← hx] at hc
        have HX := Lib.hid hx; clear hx hb hk0
        go_wp2_with fail
        refine (s_l02Least _ _).mono ?_
        rintro e w' ⟨m, rfl, rfl⟩
        cases p : amount x
        · have HN : Hid (winV xs = false) := Lib.hid (HNo.out (by rw [HA.out, ← HX.out, p]))
          go_wp2
          go_ret
          exact ⟨by rw [HN.out]; rfl, _, by first | rfl | exact World.drewN_drewN ..⟩
        · have HG : Hid (amts xs (k + 1) = true) := Lib.hid (by rw [HA.out, ← HX.out, p])
          go_wp2
          go_roundw
          case rel => exact ⟨k + 1, _, by omega, .inr h2, by go_num, HG, by first | rfl | exact World.drewN_drewN ..⟩
          case measure => simp [intOf]; omega
      · have hk0' : k = 0 := by omega
        subst hk0'
        have HN : Hid (winV xs = false) := Lib.hid (winV_no (by omega))
        have HE : Hid (decide ((xs.length : Int) ≤ 256) = false) := Lib.hid (decide_eq_false (by omega))
        clear hk0
        go_wp2
        go_ret
        exact ⟨by rw [HN.out]; show Ending.returned (.bool (decide ((xs.length : Int) ≤ 256))) = _; rw [HE.out], n, rfl⟩
    · have hkk : k = xs.length := by omega
      subst hkk
      by_cases h1 : 1 ≤ xs.length
      · have h2 : xs.length ≤ 256 := by omega
        have HN : Hid (winV xs = true) := Lib.hid (by rw [winV_yes ⟨h1, h2⟩, hr.out])
        have HE : Hid (decide ((xs.length : Int) ≤ 256) = true) := Lib.hid (decide_eq_true (by omega))
        clear hk0
        go_wp2
        go_ret
        exact ⟨by rw [HN.out]; show Ending.returned (.bool (decide ((xs.length : Int) ≤ 256))) = _; rw [HE.out], n, rfl⟩
      · have HN : Hid (winV xs = false) := Lib.hid (winV_no (by omega))
        have h0 : xs.length = 0 := by omega
        clear hk0
        go_wp2
        go_ret
        exact ⟨by rw [HN.out]; rfl, n, rfl⟩
theorem i_quotN (a b : Nat) (w : World) :
    Calls Try.prog 130 #[.float .f32 a, .float .f32 b] w fun e w' => e = .returned (.float .f32 (fopV .quo .f32 a b w)) ∧ w' = w.drewN (fopN .quo .f32 a b) := by
  go_enter Try.func130, Try.ntmps130
  go_wp2
  go_ret
  exact ⟨rfl, rfl⟩
theorem i_meanOf (A : Option Addr) (cap : Nat) (xs : List Nat) (b : Nat) (w : World) (h : Fl w A xs) (hn : xs.length ≤ 256) :
    Calls Try.prog 128 #[.slice A xs.length cap, .float .f32 b, .func (.func 130) #[] #[]] w fun e w' => ∃ r n, e = .returned (.float .f32 r) ∧ canon .f32 r = fop .quo .f32 (sumK xs xs.length) (canon .f32 b) ∧ w' = w.drewN n := by
  have H := Lib.hid (i_sumOf A cap xs w h hn); clear h hn
  go_enter Try.func128, Try.ntmps128
  go_wp2_with fail
  refine H.out.mono ?_
  rintro e w' ⟨r, n, rfl, hr, rfl⟩
  have HR := Lib.hid hr; clear hr
  go_wp2_with fail
  refine (i_quotN _ _ _).mono ?_
  rintro e w' ⟨rfl, rfl⟩
  go_wp2
  go_ret
  exact ⟨_, _, rfl, canonF HR.out rfl, rfl⟩
theorem i_evenMean (A : Option Addr) (cap : Nat) (xs : List Nat) (w : World) (h : Fl w A xs) (hn : xs.length ≤ 256) :
    Calls Try.prog 134 #[.slice A xs.length cap] w fun e w' => ∃ r n, e = .returned (.float .f32 r) ∧ canon .f32 r = meanV xs ∧ w' = w.drewN n := by
  have H := Lib.hid (fun b => i_meanOf A cap xs b w h hn); clear h
  go_enter Try.func134, Try.ntmps134
  go_wp2_with fail
  refine (H.out _).mono ?_
  rintro e w' ⟨r, n, rfl, hr, rfl⟩
  have HR := Lib.hid hr; clear hr
  go_wp2
  go_ret
  exact ⟨_, _, rfl, HR.out, rfl⟩
end Go.Proofs.Ytpmjikchlofebaa
