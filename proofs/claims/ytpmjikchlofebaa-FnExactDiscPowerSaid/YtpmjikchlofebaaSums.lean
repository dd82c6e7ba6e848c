/- Contracts of the sums. No statement is proved here. -/
import Derived.Test.YtpmjikchlofebaaSlice
namespace Go.Proofs.Ytpmjikchlofebaa
open Go Go.RowKit

theorem canon_zero : canon .f32 0 = 0 := by decide +kernel
def sumK (xs : List Nat) : Nat → Nat
  | 0 => 0
  | k + 1 => fop .add .f32 (sumK xs k) (canon .f32 (xs.getD k 0))
def dotK (xs ys : List Nat) : Nat → Nat
  | 0 => 0
  | k + 1 => fop .add .f32 (dotK xs ys k) (fop .mul .f32 (canon .f32 (xs.getD k 0)) (canon .f32 (ys.getD k 0)))
theorem i_sumOf (A : Option Addr) (cap : Nat) (xs : List Nat) (w : World) (h : Fl w A xs) (hn : xs.length ≤ 256) :
    Calls Try.prog 127 #[.slice A xs.length cap] w fun e w' => ∃ r n, e = .returned (.tuple #[.float .f32 r, .bool true]) ∧ canon .f32 r = sumK xs xs.length ∧ w' = w.drewN n := by
  go_enter Try.func127, Try.ntmps127
  go_wp2
  go_loopw [4, 12] (fun s i wr => ∃ k n r : Nat, k ≤ xs.length ∧ i = .int .i64 k ∧ s = .float .f32 r ∧ Hid (canon .f32 r = sumK xs k) ∧ wr = w.drewN n) (fun _ i _ => xs.length - (intOf i).toNat)
  case atStart => exact ⟨0, 0, 0, Nat.zero_le _, rfl, rfl, canon_zero, rfl⟩
  case round =>
    obtain ⟨k, n, r, hk, rfl, rfl, hr, rfl⟩ := hrel
    by_cases hlt : k < xs.length
    · obtain ⟨b, off, rfl, hb, hc⟩ := h.at_ hlt
      have HF := Lib.hid h; clear h
      have HS : Hid (sumK xs (k + 1) = fop .add .f32 (sumK xs k) (canon .f32 (xs.getD k 0))) := rfl
      generalize xs.getD k 0 = x at hc HS
      go_wp2
      go_roundw
      case rel => exact ⟨k + 1, _, _, by omega, by go_num, rfl, Lib.hid (by rw [canon_fopV, hr.out, HS.out]), rfl⟩
      case measure => simp [intOf]; omega
    · have hkk : k = xs.length := by omega
      subst hkk
      go_wp2
      go_ret2
      exact ⟨_, _, rfl, hr.out, rfl⟩
theorem i_sumOf_no (A : Option Addr) (n cap : Nat) (w : World) (h : 256 < n) :
    Calls Try.prog 127 #[.slice A n cap] w fun e w' => e = .returned (.tuple #[.float .f32 0, .bool false]) ∧ w' = w := by
  go_enter Try.func127, Try.ntmps127
  go_wp2
  go_ret2
  exact ⟨rfl, rfl⟩
theorem i_mulNumbers (a b : Nat) (w : World) :
    Calls Try.prog 70 #[.float .f32 a, .float .f32 b] w fun e w' => e = .returned (.float .f32 (fopV .mul .f32 a b w)) ∧ w' = w.drewN (fopN .mul .f32 a b) := by
  go_enter Try.func70, Try.ntmps70
  go_wp2
  go_ret
  exact ⟨rfl, rfl⟩
end Go.Proofs.Ytpmjikchlofebaa
