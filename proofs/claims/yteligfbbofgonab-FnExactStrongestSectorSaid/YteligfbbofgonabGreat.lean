/- The first greatest number of a list. No statement is proved here. -/
import Derived.Test.YteligfbbofgonabVal
import Derived.Test.YteligfbbofgonabSums
namespace Go.Proofs.Yteligfbbofgonab
open Go Go.RowKit

/-- the first index with the greatest number of the first k ones; not-a-numbers are left out -/
def fgStep (xs : List Nat) (k : Nat) (o : Option Nat) : Option Nat :=
  if isn .f32 (xs.getD k 0) then o else
  match o with
  | none => some k
  | some b => if gtr32 (xs.getD k 0) (xs.getD b 0) then some k else some b
def fg (xs : List Nat) : Nat → Option Nat
  | 0 => none
  | k + 1 => fgStep xs k (fg xs k)
def oI : Option Nat → Int
  | none => 0
  | some b => (b : Int)
def oM (xs : List Nat) : Option Nat → Nat
  | none => 0
  | some b => xs.getD b 0
def oF : Option Nat → Bool
  | none => false
  | some _ => true
theorem fg_lt (xs : List Nat) : ∀ k b, fg xs k = some b → b < k := by
  intro k; induction k with
  | zero => intro b h; cases h
  | succ k ih =>
    intro b h
    simp only [fg, fgStep] at h
    split at h
    · have := ih b h; omega
    · split at h
      · simp at h; omega
      · rename_i c hc
        split at h
        · simp at h; omega
        · simp at h; have := ih b (by rw [hc, h]); omega
set_option maxHeartbeats 4000000 in
theorem i_firstGreatest (A : Option Addr) (cap : Nat) (xs : List Nat) (w : World) (h : Fl w A xs) (hn : xs.length ≤ 1048576) :
    Calls Try.prog 67 #[.slice A xs.length cap] w fun e w' => ∃ n, e = .returned (.tuple #[.int .i64 (oI (fg xs xs.length)), .float .f32 (oM xs (fg xs xs.length)), .bool (oF (fg xs xs.length))]) ∧ w' = w.drewN n := by
  go_enter Try.func67, Try.ntmps67
  go_wp2
  go_loopw [5, 6, 7, 12] (fun b m f i wr => ∃ (k n : Nat) (o : Option Nat), k ≤ xs.length ∧ i = .int .i64 k ∧ Hid (fg xs k = o) ∧ b = .int .i64 (oI o) ∧ m = .float .f32 (oM xs o) ∧ f = .bool (oF o) ∧ wr = w.drewN n) (fun _ _ _ i _ => xs.length - (intOf i).toNat)
  case atStart => exact ⟨0, 0, none, Nat.zero_le _, rfl, rfl, rfl, rfl, rfl, rfl⟩
  case round =>
    obtain ⟨k, n, o, hk, rfl, ho, rfl, rfl, rfl, rfl⟩ := hrel
    by_cases hlt : k < xs.length
    · obtain ⟨b, off, rfl, hb, hc⟩ := h.at_ hlt
      have HF := Lib.hid h; clear h hb
      have HS : Hid (fg xs (k + 1) = fgStep xs k o) := Lib.hid (by show fgStep xs k (fg xs k) = _; rw [ho.out])
      obtain ⟨x, hx⟩ : ∃ x, x = xs.getD k 0 := ⟨_, rfl⟩
      rw [← hx] at hc
      have HX := Lib.hid hx; clear hx
      have hw := isn_wideV x (w.drewN n)
      cases hi : isn .f32 x
      · rw [hi] at hw
        cases o with
        | none =>
          have HO : Hid (fg xs (k + 1) = some k) := Lib.hid (by rw [HS.out]; unfold fgStep; rw [← HX.out, hi]; rfl)
          have e1 : oF none = false := rfl
          clear hi
          go_wp2_with fail
          refine (isNaN_any _ _).mono ?_
          rintro e w' ⟨rfl, rfl⟩
          rw [hw]
          go_wp2
          go_roundw
          case rel => exact ⟨k + 1, _, some k, by omega, by go_num, HO, rfl, by show _ = Value.float .f32 (xs.getD k 0); rw [← HX.out], rfl, rfl⟩
          case measure => simp [intOf]; omega
        | some c =>
          have e1 : oF (some c) = true := rfl
          cases hg : (FloatKind.f32.format.order x (oM xs (some c)) == some .gt)
          · have HO : Hid (fg xs (k + 1) = some c) := Lib.hid (by rw [HS.out]; unfold fgStep gtr32; rw [← HX.out, hi]; simp only [Bool.false_eq_true, if_false]; rw [show (FloatKind.f32.format.order x (xs.getD c 0) == some .gt) = false from hg]; rfl)
            clear hi
            go_wp2_with fail
            refine (isNaN_any _ _).mono ?_
            rintro e w' ⟨rfl, rfl⟩
            rw [hw]
            go_wp2
            go_roundw
            case rel => exact ⟨k + 1, _, some c, by omega, by go_num, HO, rfl, rfl, rfl, rfl⟩
            case measure => simp [intOf]; omega
          · have HO : Hid (fg xs (k + 1) = some k) := Lib.hid (by rw [HS.out]; unfold fgStep gtr32; rw [← HX.out, hi]; simp only [Bool.false_eq_true, if_false]; rw [show (FloatKind.f32.format.order x (xs.getD c 0) == some .gt) = true from hg]; rfl)
            clear hi
            go_wp2_with fail
            refine (isNaN_any _ _).mono ?_
            rintro e w' ⟨rfl, rfl⟩
            rw [hw]
            go_wp2
            go_roundw
            case rel => exact ⟨k + 1, _, some k, by omega, by go_num, HO, rfl, by show _ = Value.float .f32 (xs.getD k 0); rw [← HX.out], rfl, rfl⟩
            case measure => simp [intOf]; omega
      · rw [hi] at hw
        have HO : Hid (fg xs (k + 1) = o) := Lib.hid (by rw [HS.out]; unfold fgStep; rw [← HX.out, hi]; rfl)
        clear hi
        go_wp2_with fail
        refine (isNaN_any _ _).mono ?_
        rintro e w' ⟨rfl, rfl⟩
        rw [hw]
        go_wp2
        go_roundw
        case rel => exact ⟨k + 1, _, o, by omega, by go_num, HO, rfl, rfl, rfl, rfl⟩
        case measure => simp [intOf]; omega
    · have hkk : k = xs.length := by omega
      subst hkk
      have HF := Lib.hid h; clear h
      go_wp2
      refine bodyPost_ret (results_tmp3 rfl _ _ _) rfl ?_
      exact ⟨_, by rw [ho.out]; rfl, rfl⟩
/-- no number of the list is a not-a-number -/
theorem fins_at {xs : List Nat} {n : Nat} (h : fins xs n = true) : ∀ j, j < n → fin .f32 (xs.getD j 0) = true := by
  induction n with
  | zero => intro j hj; omega
  | succ n ih =>
    intro j hj
    simp only [fins, Bool.and_eq_true] at h
    by_cases e : j = n
    · rw [e]; exact h.2
    · exact ih h.1 j (by omega)
def stallO (a l d : List Nat) : Bool := validP a l d
def stallI (a l d : List Nat) : Int := if validP a l d then oI (fg l l.length) else 0
def stallR (a l d : List Nat) : Nat := if validP a l d then canon .f32 (oM a (fg l l.length)) else 0
theorem fins_of {a l d : List Nat} (h : validP a l d = true) : fins l l.length = true := by
  rw [validP_yes (sized_of h)] at h
  simp only [Bool.and_eq_true] at h
  exact h.2.1
theorem fg_some {xs : List Nat} (h : ∀ j, j < xs.length → fin .f32 (xs.getD j 0) = true) : ∀ k, 0 < k → k ≤ xs.length → ∃ b, fg xs k = some b ∧ b < k := by
  intro k; induction k with
  | zero => intro h0; omega
  | succ k ih =>
    intro _ hk
    have hf := isn_of_fin (h k (by omega))
    have hs : ∃ b, fg xs (k + 1) = some b := by
      show ∃ b, fgStep xs k (fg xs k) = some b
      unfold fgStep
      rw [hf]
      cases fg xs k with
      | none => exact ⟨_, rfl⟩
      | some c =>
        simp only [Bool.false_eq_true, if_false]
        split
        · exact ⟨_, rfl⟩
        · exact ⟨_, rfl⟩
    obtain ⟨b, hb⟩ := hs
    exact ⟨b, hb, fg_lt _ _ _ hb⟩
end Go.Proofs.Yteligfbbofgonab
